import PyProof.Rows.All
import Wide.All
import OpenK.AllK
import Wide.FinOn
import Lean
import PyProof.EqAt
import PyProof.EqKinds
import PyProof.TupleCall
import PyProof.EqLayable
import KE.KIntText
import PyProof.EnumMake
import PyProof.EnumStmt
import PyProof.EnumFor
import PyProof.Rows.EnumRows
import PyProof.ExcInit
import PyProof.ExcClass2
import PyProof.InstStoreFacts
import KE.KLam
import KE.KNestM
import KE.KRevIter
import PySem.Challenge.RW_chancehall_k56_whole_bounds
set_option compiler.extract_closed false
def aj := @List.getElem?_eq_getElem
def ak := @List.length_map
def ao := @List.getElem?_eq_some_iff
def aq := @List.getElem?_map
def au := @List.getD_eq_getElem?_getD
def aA := @List.length_append
def aC := @List.mem_of_getElem?
def aD := @List.getElem?_append_right
def aF := @List.getElem?_append_left
def aG := @Nat.le_refl
def aH := @PySem.Heap.get?_push_of_some
def aJ := @List.mem_cons_of_mem
def aK := @PySem.Heap.lt_size
def aL := @Nat.le_trans
def aM := @List.getElem?_eq_none
def aN := @List.length_replicate
def aO := @List.mem_cons_self
def aP := @List.mem_append_right
def aQ := @Nat.ne_of_lt
def aR := @Nat.lt_of_lt_of_le
def aU := @List.getElem_mem
def aV := @List.getElem?_of_mem
def aW := @PySem.Heap.get?_push_size
def aX := @List.size_toArray
def aY := @List.length_take
def aZ := @Nat.zero_le
def bf := @List.map_append
def bw := @Bool.false_ne_true
open PySem.W (Frag instObj methodObj hideAll hideAll_size hideAll_get of_hideAll hideAll_none lookIn plainGet hasDictIn findIn handedIn plainGet_of isFn plainOver takerIn makesIn emptyDict keepIn specialIn mroIn kitOne kia_one kitx_list kitx_tuple callWith_K methodCall_KW codeIn nsIn mg_of excIn readsIn findCls envX kla_obj codeHdIn codeHd_of_K tabObj)
section
open PySem PySem.Spec PyProof.Rows
abbrev Γ:=List (Int×Int)
abbrev Δ:=List (Addr×Obj)
abbrev Θ:=List Value
abbrev Φ:=List Str
abbrev Ψ:=List Addr
abbrev Ω:=Option Value
abbrev Ξ:=Option Addr
abbrev Β:=Int×Int
abbrev Ε:=Value->Shared->Prop
def Zs:=@decide_eq_true
def Zp:=@decide_eq_false
def ZZ:=@if_neg
def ZY:=@if_pos
def ZU:=@wpAny_bind
def ZT:=@wpAny_pure
def ZH:=@congrArg
def Z3:=@Int.emod_nonneg
def YY:=@Int.emod_lt_of_pos
def YV:=@List.mem_map
def YU:=@List.mem_cons
def YR:=@List.mem_singleton
def Y1:=@List.mem_append
def Y2:=@Nat.le_of_lt
def Y3:=@Nat.lt_of_le_of_lt
def Xs:=@Nat.le_succ
def XZ:=@Int.mul_pos
def XY:=@Int.le_of_lt
def XX:=@Nat.lt_of_le_of_ne
def XW:=@Bool.false_eq_true
def XV:=@List.mem_replicate
def XU:=@Rat.intCast_mul
def XT:=@Rat.mul_comm
def XG:=@Nat.pow_le_pow_right
def X0:=@Int.natAbs_natCast
def X1:=@List.getElem?_replicate
def X2:=@Nat.lt_succ_self
def X9:=@Nat.le_add_right
def Wp:=@Nat.lt_irrefl
def WZ:=@Int.natCast_nonneg
def WV:=@List.append_assoc
def WU:=@Nat.not_lt_zero
def WS:=@Nat.lt_add_right
def WP:=@Int.ne_of_gt
def WJ:=@List.map_map
def WG:=@Nat.le_of_eq
def WH:=@List.length_range
def W1:=@Nat.mul_le_mul
def VZ:=@List.length_zip
def VY:=@PySem.boot_len
def VX:=@List.of_mem_zip
def VW:=@Int.natAbs_mul
def VU:=@Nat.one_pos
def VT:=@List.length_set
def VS:=@Nat.le_of_not_lt
def VQ:=@Rat.le_refl
def Up:=@List.getElem?_range
def UZ:=@Nat.le_of_lt_succ
def UY:=@Nat.pow_add
def UX:=@Nat.le_of_dvd
def UV:=@Nat.min_self
def UU:=@Nat.lt_trans
def UT:=@List.getElem?_set_ne
def US:=@List.not_mem_nil
def UR:=@List.getElem_map
def UQ:=@Rat.divInt_eq_div
def UP:=@Nat.mul_pos
def UK:=@Nat.ne_of_gt
def UH:=@Rat.mul_le_mul_of_nonneg_left
def U1:=@Nat.one_dvd
def U2:=@List.mem_append_left
def Tx:=@List.getElem?_set_self
def Tu:=@Rat.le_trans
def Ts:=@Int.natCast_mul
def Tk:=@List.map_congr_left
def Th:=@Rat.le_of_lt
def TZ:=@Nat.le_of_ble_eq_true
def TW:=@List.length_drop
def TU:=@Nat.succ_pos
def TR:=@Nat.dvd_trans
def TK:=@List.ext_getElem
def TH:=@Nat.mul_le_mul_left
def T1:=@Int.mul_one
def T2:=@Int.toNat_natCast
def JY:=@Nat.not_lt_of_le
def JU:=@Nat.mul_comm
def JS:=@List.drop_eq_nil_of_le
def JP:=@List.length_zipWith
def JJ:=@Int.one_mul
def Qr:=@Nat.dvd_refl
def QY:=@Int.lt_of_not_ge
def QU:=@Nat.add_sub_cancel_left
def QR:=@Int.gcd_dvd_right
def QQ:=@Rat.divInt_eq_divInt_iff
def QP:=@Rat.zero_divInt
def Q1:=@Nat.div_le_self
def Q2:=@List.getElem_range
def Q3:=@Rat.mul_nonneg
def Q4:=@Nat.le_add_left
def j':=@List.filterMap_cons
def ka:=@List.drop_eq_getElem_cons
def kb:=@List.lookup_append
def kc:=@Int.mul_ediv_cancel_left
def ke:=@Rat.divInt_add_divInt
def ki:=@Rat.divInt_mul_divInt
def kl:=@Nat.mul_le_mul_right
def km:=@List.getLast?_eq_getElem?
def kn:=@Nat.sub_add_cancel
def ko:=@Rat.divInt_nonneg
def lI:=@List.take_of_length_le
def lL:=@Int.fdiv_eq_ediv_of_nonneg
def lP:=@List.set_eq_of_length_le
def lR:=@Int.gcd_pos_of_ne_zero_right
def l4:=@Int.ediv_pos_of_pos_of_dvd
def l5:=@Nat.le_mul_of_pos_left
def l6:=@Rat.mul_le_mul_of_nonneg_right
end
set_option Elab.async false
set_option linter.all false
set_option maxRecDepth 100000
set_option maxHeartbeats 4000000
namespace L2.Once
noncomputable section
open PySem PySem.W
def z:Pos:=⟨0,0,0,0⟩
def tE:Obj:=⟨.type "tuple",none,.seq ⟨[]⟩ 0,⟨[]⟩⟩
def fE:Obj:=⟨.none,none,.fields ⟨[]⟩,⟨[]⟩⟩
def tN(t:Nat)(l:Φ):Obj:=⟨.type "tuple",none,.seq ⟨(l.zipIdx t).map λx=>.str x.1 x.2⟩ 0,⟨[]⟩⟩
def cO(n q:Str)(t:Nat)(l a f:Int)(r u:Nat):Obj:=⟨.type "code",none,.fields ⟨[.str n t,.str q (t+1),.str "/claim/cut.py" (t+2),.int l 0,.int a 0,.int 0 0,.int 0 0,.int f 0,.ref r,.bool true,.int 181 0,.ref (r+1),.none,.ref (r+2),.ref (r+3),.ref (r+4),.int u 0,.int l 0,.str "/claim/cut.py" (u+1)]⟩,⟨[]⟩⟩
def mM:Obj:={ cls:=.type "tuple",data:=.seq #[] }
def rS:Obj:={ cls:=.none,data:=.fields #[] }
def mI:Obj:={ cls:=.type "code",data:=.fields #[.str "<module>" 182,.str "<module>" 183,.str "/claim/cut.py" 184,.int 1 0,.int 0 0,.int 0 0,.int 0 0,.int 0 0,.ref 11,.bool false,.int 181 0,.ref 12,.none,.none,.none,.none,.int 185 0,.int 1 0,.str "/claim/cut.py" 186] }
def mF:Obj:={ cls:=.type "frame",slots:=#[some (.ref 13),some (.ref 3),some (.ref 3),none,some (.str "__main__" 164),none,some (.ref 0)] }
def cP(n q:Str)(t:Nat)(l a f:Int)(r u:Nat):Obj:=⟨.type "code",none,.fields ⟨[.str n t,.str q (t+1),.str "/claim/cut.py" (t+2),.int l 0,.int a 0,.int 0 0,.int 0 0,.int f 0,.ref r,.bool true,.int 181 0,.ref (r+1),.none,.none,.none,.ref (r+2),.int u 0,.int l 0,.str "/claim/cut.py" (u+1)]⟩,⟨[]⟩⟩
def dE(P:Params)(x:Str)(t:Nat)(v:Value):DictEntry:=⟨PyData.keyHash P x,.str x t,v⟩
abbrev lf(o:Obj):BT:=.node o .nil .nil
def tr(P:Params):BT:=.node (boot_o_0 P)
 (.node (boot_o_1 P) (.node (boot_o_3 P) (lf (boot_o_7 P)) (lf mM)) (.node (boot_o_5 P) (lf (boot_o_9 P)) (lf mI)))
 (.node (boot_o_2 P) (.node (boot_o_4 P) (lf (boot_o_8 P)) (lf rS)) (.node (boot_o_6 P) (lf (boot_o_10 P)) (lf mF)))
def S0(w:World)(os:OsState):Shared:=⟨boot_heap w.params,Array.mk [],boot_drawn,boot_toks,os⟩
def Sa(w:World)(os:OsState):Shared:=⟨⟨Array.mk [boot_o_0 w.params,boot_o_1 w.params,boot_o_2 w.params,boot_o_3 w.params,boot_o_4 w.params,boot_o_5 w.params,boot_o_6 w.params,boot_o_7 w.params,boot_o_8 w.params,boot_o_9 w.params,boot_o_10 w.params,mM,rS,mI,mF],{}⟩,Array.mk [],{},187,os⟩
def Sb(w:World)(os:OsState):SharedT:=⟨tr w.params,15,{},⟨[]⟩,{},187,os⟩
def env(p:Program):Env:={ scope:=p.main.scope,locals:=mainNs,globals:=mainNs,cells:=[],code:=.ref 13,frame:=some 14 }
def cE(p:Program):Code:=.body (behindTheImports p) (env p)
abbrev eH:Ω:=some (.ref 6)
abbrev B:List Frame:=[topFrame z]
def size(w:World):((boot_heap w.params).isNs mainGlobals&&(Array.mk [] : Array GenState).size==0,(boot_heap w.params).objs.size,(boot_heap w.params).nsMap mainGlobals "__annotations__")=(true,11,eH):=by
 rw[Fast.te8920871248978507458];kernel_rfl
def qg(p:Program)(w:World)(M:Nat)(S:SharedT)(l:List Stmt)(q:Pos)(G:Shared->Prop):Prop:=∃s,topRun treeTable p w 11 eH M S.abs (restOf l (env p) (cE p) q B)=some s/\G s
def qg.cut{p:Program}{w:World}{n M:Nat}{S f:SharedT}{e d:List Stmt}{q c:Pos}{G:Shared->Prop}(h:segRunT treeTable p w 11 eH 1 n S (piecesOf e (env p) (cE p) q B)=some (.next,f,cE p,c))(k:qg p w M f d c G):qg p w (n+M) S (e++d) q G :=
 let⟨s,a,b⟩:=k
 ⟨s,piece_app (segRun_of h) a,b⟩
def qg.cutAt{p:Program}{w:World}{n m M:Nat}{S b:SharedT}{l:List Stmt}{q a:Pos}{G:Shared->Prop}(h:segRunT treeTable p w 11 eH 1 n S (piecesOf (l.take m) (env p) (cE p) q B)=some (.next,b,cE p,a))(k:qg p w M b (l.drop m) a G):qg p w (n+M) S l q G:=by
 have:=qg.cut h k;rwa[List.take_append_drop]at this
def Good{b:Type}(p q:Program)(a:Φ)(f:Shared->Bool)(d:Shared->b)(e:World->b)(c:Bool)(w:World)(s:Shared):Prop :=
 (staticsOk (importedModules p.main.body) (boot_heap w.params) s.heap&&namesBound p s.heap&&gensDone s&&laidKept (boot_heap w.params) s.heap,openSeen q a (importedModules p.main.body) f c s,d s)=(true,openGood q a,e w)
def qg.last{p q:Program}{a:Φ}{o:Shared->Bool}{d:Type}{j:Shared->d}{m:World->d}{i:Bool}{w:World}{n k:Nat}{S:SharedT}{l:List Stmt}{h e:Pos}
 (b:(segRunT treeTable p w 11 eH 1 n S (piecesOf l (env p) (cE p) h B)).map (λr =>
    (r.1,r.2.2.1,r.2.2.2,(topRun treeTable p w 11 eH k r.2.1.abs ⟨doneF .next,cE p,e,B⟩).map λs =>
     (staticsOk (importedModules p.main.body) (boot_heap w.params) s.heap&&namesBound p s.heap&&gensDone s&&laidKept (boot_heap w.params) s.heap,openSeen q a (importedModules p.main.body) o i s,j s))) =
   some (.next,cE p,e,some (true,openGood q a,m w))):qg p w (n+k) S l h (Good p q a o j m i w):=by
 obtain⟨⟨f,A,c,z⟩,y,x⟩:=Option.map_eq_some_iff.mp b;obtain⟨rfl,rfl,rfl,v⟩ : f=.next/\c=cE p/\z=e/\_:=by simpa only[Prod.mk.injEq]using x
 obtain⟨s,u,t⟩:=Option.map_eq_some_iff.mp v;have g:=piece_app (rest:=[]) (segRun_of y) (piece_nil u);rw[List.append_nil]at g;exact⟨s,g,t⟩
def aaZ{p q:Program}{c:Φ}{l:Shared->Bool}{g:Type}{j:Shared->g}{k:World->g}{N:Nat}{i:Bool}{a b M:Nat}
 (D:∀w:World,(fencedOpening treeTable p w N).map (λs=>(s.heap,s.gens,s.drawn,s.toks))=some (boot_heap w.params,Array.mk [],boot_drawn,boot_toks))
 (f:∀w:World,(λos=>topGo treeTable p w 11 eH a (S0 w os) (topStub p))=λos=>some (Sa w os,⟨denote treeTable (cE p),cE p,z,B⟩))
 (e:∀w:World,(λos=>segRun treeTable p w 11 eH 1 b (Sa w os) (blockOf (behindTheImports p) (env p) (cE p) z B))=λos=>some (.next,(Sb w os).abs,cE p,z))
 (u:∀(w:World)(os:OsState),qg p w M (Sb w os) (behindTheImports p) z (Good p q c l j k i w))
 (le:Nat.ble (a+(b+M)) N=true):LeftO p q c l j k N i:=λw=>by
 obtain⟨⟨h,E,d,C,os⟩,G,F⟩:=Option.map_eq_some_iff.mp (D w);obtain⟨rfl,rfl,rfl,rfl⟩ : h=boot_heap w.params/\E=Array.mk []/\d=boot_drawn/\C=boot_toks:=by simpa using F
 obtain⟨o,n,m⟩ : _/\_/\_:=by simpa only[Prod.mk.injEq]using size w
 obtain⟨s,v,r⟩:=u w os;obtain⟨A,y,x⟩ : _/\_/\_:=by simpa only[Good,Prod.mk.injEq]using r
 have q2:=go_top (congrFun (f w) os) (piece_block (congrFun (e w) os) v);have q3:=topRun_mono (N-(a+(b+M))) _ _ _ _ q2;rw[show a+(b+M)+(N-(a+(b+M)))=N by have:=TZ le;omega]at q3;have t:topFrom treeTable p w N ⟨boot_heap w.params,Array.mk [],boot_drawn,boot_toks,os⟩=some s:=by
  unfold topFrom;dsimp only;rw[o,n,m,show topRun treeTable p w 11 eH N ⟨boot_heap w.params,Array.mk [],boot_drawn,boot_toks,os⟩ (topStub p)=some s from q3];show(match staticsOk (importedModules p.main.body) (boot_heap w.params) s.heap&&namesBound p s.heap&&gensDone s&&laidKept (boot_heap w.params) s.heap with|true=>_|false=>_)=_;rw[A]
 unfold openEnds;rw[G];show(topFrom treeTable p w N _).map _=_;rw[t];exact ZH some (Prod.ext y x)
end
end L2.Once
namespace L2
open PySem
def h_(s:Stmt):Arguments:=match s with
 |.FunctionDef _ a _ _ _ _ _ _ _ _=>a
 |_=>{ posonlyargs:=[],args:=[],vararg:=none,kwonlyargs:=[],kw_defaults:=[],kwarg:=none,defaults:=[] }
def dZ(s:Stmt):List Stmt:=match s with
 |.FunctionDef _ _ b _ _ _ _ _ _ _=>b
 |_=>[]
def bG(s:Stmt):Scope:=match s with
 |.FunctionDef _ _ _ _ _ _ a _ _ _=>a
 |_=>{ kind:=.function,names:=[],isGenerator:=false,isCoroutine:=false }
end L2
namespace K56
open PySem L2
def top(i:Nat):Stmt:=PySem.Challenge.pw_chancehall_k56_whole_bounds.main.body.getD i (.Pass ⟨0,0,0,0⟩)
def g_(i j:Nat):Stmt:=match top i with|.ClassDef _ _ _ b _ _ _ _ _ _ _=>b.getD j (.Pass ⟨0,0,0,0⟩)|_=>.Pass ⟨0,0,0,0⟩
abbrev fL:Φ:=["thing"]
abbrev Xb:Φ:=fL
abbrev cT:Φ:=["one","other"]
abbrev Qi:Φ:=cT.append ["left","right","rest"]
abbrev nW:Φ:=["top","bottom"]
abbrev T3:Φ:=nW.append ["common"]
abbrev jK:Φ:=["thing"]
abbrev Dj:Φ:=jK.append ["top","bottom"]
abbrev vO:Φ:=["one","other"]
abbrev SK:Φ:=vO
abbrev m9:Φ:=["one","other"]
abbrev We:Φ:=m9
abbrev sV:Φ:=["one","other"]
abbrev WO:Φ:=sV
abbrev w6:Φ:=["one","other"]
abbrev Pi:Φ:=w6
abbrev mj:Φ:=["one","other"]
abbrev _P:Φ:=mj
abbrev nZ:Φ:=["fractions"]
abbrev EZ:Φ:=nZ.append ["bottom","one"]
abbrev yI:Φ:=["fractions"]
abbrev R4:Φ:=yI.append ["leveled"]
abbrev iI:Φ:=["fractions"]
abbrev rW:Φ:=iI.append ["found","one"]
abbrev yx:Φ:=["fractions"]
abbrev _k:Φ:=yx.append ["found","one"]
abbrev jm:Φ:=["hall"]
abbrev xg:Φ:=jm
abbrev FN:Φ:=["thing","many"]
abbrev Xx:Φ:=FN
abbrev gQ:Φ:=["hall","plan"]
abbrev vM:Φ:=gQ.append ["room","thing"]
abbrev jz:Φ:=["offer","tops"]
abbrev lE:Φ:=jz.append ["leveled"]
abbrev iC:Φ:=["hall","offer","leveled"]
abbrev Cw:Φ:=iC.append ["behind"]
abbrev rA:Φ:=["tops","bottom"]
abbrev Wq:Φ:=rA.append ["common","top"]
abbrev nR:Φ:=["row","often"]
abbrev Am:Φ:=nR
abbrev pX:Φ:=["row","other","often"]
abbrev Dr:Φ:=pX.append ["bottom","common","own","added","tops"]
abbrev oG:Φ:=["leveled","step"]
abbrev Ax:Φ:=oG.append ["row"]
abbrev kJ:Φ:=["row","column"]
abbrev Aa:Φ:=kJ
abbrev jd:Φ:=["leveled"]
abbrev jJ:Φ:=jd
abbrev lY:Φ:=["leveled","place","column"]
abbrev Gb:Φ:=lY.append ["row"]
abbrev u_:Φ:=["leveled","steps","step"]
abbrev Ub:Φ:=u_
abbrev nF:Φ:=["leveled","steps","place","found","column"]
abbrev Jh:Φ:=nF.append ["first"]
abbrev je:Φ:=["leveled","steps","place","column"]
abbrev yN:Φ:=je.append ["row","often"]
abbrev sJ:Φ:=["rows","wide"]
abbrev Ij:Φ:=sJ.append ["leveled","steps","place","column","found"]
abbrev pY:Φ:=["rows"]
abbrev Xh:Φ:=pY
abbrev jL:Φ:=["rows","rights"]
abbrev um:Φ:=jL
abbrev oE:Φ:=["end","wide"]
abbrev yh:Φ:=oE.append ["begins","row","columns"]
abbrev tu:Φ:=["end","begins","wide"]
abbrev Hu:Φ:=tu.append ["row"]
abbrev nT:Φ:=["end","begins","wide"]
abbrev Iu:Φ:=nT.append ["answer","row","column"]
abbrev jD:Φ:=["many"]
abbrev lK:Φ:=jD
abbrev jH:Φ:=["rows","rights"]
abbrev Cq:Φ:=jH.append ["wide","end","begins"]
abbrev iZ:Φ:=["hall","plan"]
abbrev tK:Φ:=iZ
abbrev m_:Φ:=["share","chosen"]
abbrev I8:Φ:=m_.append ["rows","room","offer","behind","chance"]
abbrev kI:Φ:=["hall","plan"]
abbrev yZ:Φ:=kI.append ["chosen","pays"]
abbrev jF:Φ:=["seen","door"]
abbrev uo:Φ:=jF.append ["most"]
abbrev rH:Φ:=["hall","plan","worths"]
abbrev Mp:Φ:=rH.append ["leveled","told","room","door","seen"]
abbrev pW:Φ:=["hall","plan"]
abbrev Dk:Φ:=pW.append ["told","coming"]
abbrev sS:Φ:=["hall"]
abbrev abr:Φ:=sS
abbrev lO:Φ:=["many"]
abbrev SX:Φ:=lO
abbrev sG:Φ:=["raised","bottom"]
abbrev HS:Φ:=sG
abbrev gY:Φ:=["hall","ahead"]
abbrev wW:Φ:=gY.append ["leveled","told","room","seen"]
abbrev j9:Φ:=["first","many","follow"]
abbrev qd:Φ:=j9.append ["told"]
abbrev dI:Φ:=["hall","many"]
abbrev ji:Φ:=dI
abbrev gB:Φ:=["many"]
abbrev KD:Φ:=gB
abbrev Ad:Φ:=["ahead","last"]
abbrev Rf:Φ:=Ad
abbrev sI:Φ:=["share","gain"]
abbrev Ih:Φ:=sI
abbrev oK:Φ:=["hall","many"]
abbrev pQ:Φ:=oK.append ["rounds","last","gained","low","high"]
abbrev lV:Φ:=["hall","many"]
abbrev QC:Φ:=lV
abbrev mL:Φ:=["thing"]
abbrev HF:Φ:=mL
abbrev jh:Φ:=["name","pay"]
abbrev wg:Φ:=jh
abbrev eN:Φ:=["room"]
abbrev Gg:Φ:=eN
abbrev gC:Φ:=["chance"]
abbrev K6:Φ:=gC
abbrev jM:Φ:=["pairs"]
abbrev uw:Φ:=jM.append ["room","chance"]
abbrev jG:Φ:=["pairs"]
abbrev Cp:Φ:=jG.append ["chances","room","chance"]
abbrev jR:Φ:=["share"]
abbrev Om:Φ:=jR
abbrev lW:Φ:=["rooms"]
abbrev vY:Φ:=lW.append ["numbers","room","name"]
abbrev ig:Φ:=["door","numbers"]
abbrev xT:Φ:=ig.append ["numbered","name","chance"]
abbrev nC:Φ:=["doors","numbers"]
abbrev Ja:Φ:=nC.append ["taken","told","door"]
abbrev Bu:Φ:=["_law_script","_law_k"]
abbrev YJ:Φ:=Bu
abbrev jq:Φ:=["_law_cell_here","_law_many"]
abbrev Wr:Φ:=jq.append ["_law_found","_law_number","_law_digits","_law_k"]
abbrev qy:Φ:=["_law_one","_law_other"]
abbrev Db:Φ:=qy.append ["_law_low","_law_high"]
abbrev oW:Φ:=["_law_top","_law_bottom"]
abbrev VD:Φ:=oW.append ["_law_common"]
abbrev nM:Φ:=["_law_found"]
abbrev zH:Φ:=nM.append ["_law_number"]
abbrev jf:Φ:=["_law_found","_law_many"]
abbrev xO:Φ:=jf
abbrev Gq:Φ:=["_law_one","_law_other"]
abbrev N2:Φ:=Gq
abbrev Af:Φ:=["_law_cell_here","_law_many"]
abbrev wZ:Φ:=Af.append ["_law_letters","_law_xs","_law_base","_law_at","_law_step"]
abbrev yH:Φ:=["_law_cell_here","_law_small"]
abbrev E9:Φ:=yH.append ["_law_xs","_law_bottom"]
abbrev Lr:Φ:=["_law_cell_here","_law_x","_law_y","_law_small"]
abbrev C2:Φ:=Lr
abbrev Ew:Φ:=["_law_cell_here","_law_many","_law_small"]
abbrev vQ:Φ:=Ew.append ["_law_xs","_law_rooms","_law_sort","_law_pairs","_law_bottom","_law_part","_law_weights"]
abbrev zy:Φ:=["_law_script","_law_at","_law_many","_law_small"]
abbrev Rb:Φ:=zy.append ["_law_rooms","_law_first","_law_cells","_law_cell_here","_law_room","_law_door_here"]
abbrev Ay:Φ:=["_law_title","_law_door_here","_law_names_here"]
abbrev Fd:Φ:=Ay.append ["_law_told","_law_sort","_law_pay_here","_law_pairs"]
abbrev GQ:Φ:=["_law_cell_here","_law_share_here","_law_rooms"]
abbrev Yo:Φ:=GQ.append ["_law_names_here","_law_found","_law_k","_law_titles"]
abbrev abf:Φ:=["_law_cell_here","_law_rooms"]
abbrev ac3:Φ:=abf.append ["_law_xs","_law_found","_law_k"]
abbrev uY:Φ:=["_law_one","_law_other"]
abbrev Zl:Φ:=uY
abbrev GK:Φ:=["_law_cell_here"]
abbrev Yl:Φ:=GK.append ["_law_xs"]
abbrev Bc:Φ:=["_law_one","_law_other"]
abbrev NY:Φ:=Bc
abbrev jj:Φ:=["_law_some","_law_best"]
abbrev vC:Φ:=jj
abbrev zP:Φ:=["_law_some"]
abbrev Q9:Φ:=zP
abbrev vd:Φ:=["_law_share_here","_law_one","_law_other"]
abbrev Vs:Φ:=vd.append ["_law_far"]
abbrev vg:Φ:=["_law_hall_here","_law_many","_law_told","_law_best","_law_last"]
abbrev yE:Φ:=vg.append ["_law_size_here","_law_worths","_law_lows","_law_highs"]
abbrev Qs:Φ:=["_law_script"]
abbrev pj:Φ:=Qs.append ["_law_size_here","_law_share_here","_law_rooms","_law_hall_here","_law_xs","_law_many","_law_best","_law_some","_law_told","_law_k"]
abbrev kO:Φ:=["self","name","pay"]
abbrev yw:Φ:=kO
abbrev m8:Φ:=["self"]
abbrev WQ:Φ:=m8
abbrev GJ:Φ:=["self","room"]
abbrev dU:Φ:=GJ
abbrev m7:Φ:=["self","name","pay","room"]
abbrev Ah:Φ:=m7
abbrev gR:Φ:=["self","name","pay","pairs"]
abbrev wj:Φ:=gR
abbrev ou:Φ:=["self","name","pay","chance","room","other"]
abbrev I_:Φ:=ou
abbrev nY:Φ:=["self","name","pay","rooms"]
abbrev A_:Φ:=nY
abbrev mY:Φ:=["self","share","rooms"]
abbrev zM:Φ:=mY
abbrev fD:Φ:=["self"]
abbrev V_:Φ:=fD
abbrev Nq:Φ:=["self","name"]
abbrev Gv:Φ:=Nq
abbrev fW:Φ:=["self","room"]
abbrev Fq:Φ:=fW
abbrev Jl:Φ:=["self","room","name"]
abbrev yO:Φ:=Jl
abbrev dX:Φ:=["self","room"]
abbrev uH:Φ:=dX
end K56
namespace H56
open PySem PySem.W L2 L2.Once K56
abbrev p:Program:=PySem.Challenge.pw_chancehall_k56_whole_bounds
noncomputable section
noncomputable def dR(P:Params)(x:Str)(t m:Nat):DictEntry:=dE P x t (.ref m)
noncomputable def wD(l:List DictEntry)(n:Nat):Obj:=⟨.type "dict",none,.dict ⟨l⟩ n,⟨[]⟩⟩
noncomputable def i3(a b:Nat)(c:Nat)(l:Θ):Θ:=.int a 0::.int b 0::.ref c::l
noncomputable def nd(o:Obj)(l r:BT):BT:=.node o l r
noncomputable def n1(o x:Obj):BT:=.node o (lf x) .nil
noncomputable def n2(o x y:Obj):BT:=.node o (lf x) (lf y)
def wA:Obj:=⟨.type "builtin_function_or_method",none,.fields ⟨[.builtin "type.__prepare__",.type "type"]⟩,⟨[]⟩⟩
def wB(n:Nat):Obj:=⟨.type "builtin_function_or_method",none,.fields ⟨[.builtin "object.__init_subclass__",.ref n]⟩,⟨[]⟩⟩
def wC(n:Str)(t l r u:Nat):Obj:=⟨.type "code",none,.fields ⟨[.str n t,.str n (t+1),.str "/claim/cut.py" (t+2),.int l 0,.int 0 0,.int 0 0,.int 0 0,.int 0 0,.ref r,.bool false,.int 181 0,.ref (r+1),.none,.none,.none,.none,.int u 0,.int l 0,.str "/claim/cut.py" (u+1)]⟩,⟨[]⟩⟩
def wF(c d:Nat)(n:Str)(t:Nat):Obj:=⟨.type "frame",none,.plain,⟨[some (.ref c),some (.ref 3),some (.ref d),none,some (.str n t),none,some (.ref 0)]⟩⟩
def wG(t n:Nat):Obj:=⟨.type "getset_descriptor",none,.fields ⟨[.str "__weakref__" t,.ref n,.builtin "ExceptionGroup.__weakref__",.none]⟩,⟨[]⟩⟩
def wK(n:Str)(b m:Θ)(d:Nat)(s:Θ)(o:Ω)(t u:Nat)(x:String):Obj:=⟨.type "type",none,.cls ⟨n,b,m,d,n,true,[],s,false,none,false⟩,⟨[o,none,some (.str n t),some (.str n u),some (.builtin x),some (.bool true)]⟩⟩
def wS(n:Nat):Obj:=⟨.type "super",none,.fields ⟨[.ref n,.ref n,.ref n]⟩,⟨[]⟩⟩
def wT(n:Nat):Obj:=⟨.type "tuple",none,.seq ⟨[.ref n]⟩ 0,⟨[]⟩⟩
def fO(n q:Str)(s:Stmt)(m:Value)(c:Nat):Obj:=⟨.type "function",none,.func (fnOf n q (h_ s) (dZ s) (bG s) .none .none .none m none (.ref c) .none),⟨[]⟩⟩
def fT(n q:Str)(s:Stmt):Obj:=⟨.none,none,.func { fnOf n q (h_ s) (dZ s) (bG s) .none .none .none .none none .none .none with globals:=0,builtins:=0 },⟨[]⟩⟩
def fV(n:Str)(k:Nat)(m:Value)(c:Nat):Obj:=fO n n (top k) m c
def fU(n:Str)(k:Nat):Obj:=fT n n (top k)
def cU(n:Str)(t:Nat)(l a f:Int)(r u:Nat):Obj:=cO n n t l a f r u
def cV(n:Str)(t:Nat)(l a f:Int)(r u:Nat):Obj:=cP n n t l a f r u
def dM(P:Params)(l:List (String×Nat×Nat)):List DictEntry:=l.map λx=>dR P (Str.ofString x.1) x.2.1 x.2.2
def dC(P:Params)(a:Nat)(m:Value)(n:Str)(l:Int)(r:List DictEntry):List DictEntry:=dE P "__module__" a m::dE P "__qualname__" (a+2) (.str n (a+1))::dE P "__firstlineno__" (a+4) (.int l (a+3))::r
def dF(P:Params)(a:Nat)(m:Value)(l:Int)(r:List DictEntry):List DictEntry:=dE P "__module__" a m::dE P "__firstlineno__" (a+4) (.int l (a+3))::r
def wX(n:Str)(c d o t u:Nat):Obj:=wK n [.ref 31] [.ref c,.ref 31,.type "ValueError",.type "Exception",.type "BaseException",.type "object"] d [] (some (.ref o)) t u "ValueError.__new__"
def GU:Value:=.str "__main__" 164
def dP:Value:=.str "chancehall.errors" 194
def rV:Value:=.str "chancehall.wholes" 328
def g4:Value:=.str "chancehall.ratios" 348
def k5:Value:=.str "chancehall.levels" 414
def i4:Value:=.str "chancehall.plans" 448
def fo:Value:=.str "chancehall.papers" 490
def g0:Value:=.str "chancehall.solving" 582
def mV:Value:=.str "chancehall.worths" 642
def k4:Value:=.str "chancehall.mending" 669
def jp:Value:=.str "chancehall.rounds" 703
def i9:Value:=.str "chancehall.bounds" 747
def LO:Value:=.str "chancehall.words" 784
def tL:Value:=.str "chancehall.doors" 794
def Hi:Value:=.str "chancehall.halls" 981
def qF:Value:=.str "law_chancehall_k56_whole_bounds" 1096
noncomputable def zM(P:Params)(l:List (String×Nat×Nat))(n:Nat):Obj:=wD (dE P "__name__" 165 qF::dE P "__doc__" 166 .none::dE P "__package__" 167 .none::dE P "__loader__" 168 (.builtin "__main__.__loader__#opaque")::dE P "__spec__" 169 .none::dR P "__annotations__" 170 6::dR P "__builtins__" 171 4::dE P "__file__" 173 (.str "/claim/cut.py" 172)::dE P "__cached__" 174 .none::dM P [("_wall",193,21),("HallError",213,31),("NoNumber",229,44),("NoName",245,56),("NoChance",261,68),("NoShare",277,80),("NoRoom",302,99),("NoPlan",327,118),("is_whole",336,127),("divisor",347,134),("NOUGHT",352,135),("ONE",355,136),("ratio",364,143),("is_ratio",373,150),("plus",381,157),("minus",389,164),("times",397,171),("over",405,178),("under",413,185),("level",421,190),("total",429,197),("greatest",438,204),("least",447,211),("first_plan",455,216),("fits",463,223),("check_plan",473,230),("behind_door",479,235),("raised_look",489,242),("lowest",497,247),("row_times",503,252),("row_plus",509,257),("take_step",518,264),("number_at",526,271),("fractions_of",532,276),("first_from",542,283),("go_on",551,290),("begin_row",563,297),("clear_column",575,304),("reduced",581,309),("width_of",590,316),("with_rights",596,321),("begins_of",602,326),("odd_row",612,333),("answer_of",624,340),("single_rows",630,345),("only_answer",641,352),("chosen_doors",649,357),("left_rows",662,364),("worths_of",668,369),("better_door",679,376),("mended",685,381),("mendings",695,388),("best_of",702,395)]++dE P "MOST" 706 (.int 40 705)::dM P [("check_many",713,402),("lowered",721,409),("best_round",727,414),("rounds_behind",737,421),("best_rounds",746,428),("check_behind",755,435),("gains",761,440),("to_come",769,447),("bounds_of",775,452),("round_plan",783,459)]++dE P "LONGEST_WORD" 787 (.int 8 786)::dM P ([("is_word",793,464),("check_head",803,471),("check_room_name",810,478),("check_chance",817,485),("check_pairs",823,490),("joined_ways",829,495),("Door",876,526),("Sure",903,547),("Mixed",930,566),("Toss",958,585),("Even",980,602),("check_share",989,611),("numbers_of",999,618),("numbered_ways",1010,625),("offers_of",1021,632),("Hall",1095,687),("_law_cell",1105,698),("_law_stream",1117,705),("_law_gcd",1127,712),("_law_ratio",1136,719),("_law_is_ratio",1144,726),("_law_are_ratios",1150,731),("_law_same",1158,738),("_law_names",1164,743),("_law_share",1174,750),("_law_pay",1184,757),("_law_door",1190,762),("_law_doors",1196,767),("_law_built",1202,772),("_law_hall",1208,777),("_law_chosen",1219,784),("_law_below",1227,791),("_law_size",1235,798),("_law_less",1243,805),("_law_none_above",1249,810),("_law_alike",1255,815),("_law_nearer",1265,822)]++l)++[]) n
def KF(P:Params):Obj:=zM P [] 111
def rL:Obj:=fV "_wall" 0 GU 20
def rs:Obj:=⟨.type "tuple",none,.seq ⟨.type "ValueError"::[]⟩ 0,⟨[]⟩⟩
def GT(P:Params):Obj:=wD (dC P 203 dP "HallError" 5 <|dR P "__static_attributes__" 208 29::[]) 4
def rr(P:Params):Obj:=wD (dF P 203 dP 5 <|dR P "__static_attributes__" 208 29::dR P "__weakref__" 210 32::dE P "__doc__" 211 .none::[]) 3
def rq:Obj:=wK "HallError" [.type "ValueError"] [.ref 31,.type "ValueError",.type "Exception",.type "BaseException",.type "object"] 30 [.ref 44,.ref 56,.ref 68,.ref 80,.ref 99,.ref 118] (some (.ref 22)) 196 204 "ValueError.__new__"
def GS(P:Params):Obj:=wD (dC P 221 dP "NoNumber" 7 <|dR P "__static_attributes__" 226 42::[]) 4
def ro(P:Params):Obj:=wD (dF P 221 dP 7 <|dR P "__static_attributes__" 226 42::dE P "__doc__" 227 .none::[]) 2
def rn:Obj:=wX "NoNumber" 44 43 35 214 222
def GN(P:Params):Obj:=wD (dC P 237 dP "NoName" 9 <|dR P "__static_attributes__" 242 54::[]) 4
def rm(P:Params):Obj:=wD (dF P 237 dP 9 <|dR P "__static_attributes__" 242 54::dE P "__doc__" 243 .none::[]) 2
def rk:Obj:=wX "NoName" 56 55 47 230 238
def GM(P:Params):Obj:=wD (dC P 253 dP "NoChance" 11 <|dR P "__static_attributes__" 258 66::[]) 4
def rj(P:Params):Obj:=wD (dF P 253 dP 11 <|dR P "__static_attributes__" 258 66::dE P "__doc__" 259 .none::[]) 2
def rh:Obj:=wX "NoChance" 68 67 59 246 254
def GL(P:Params):Obj:=wD (dC P 269 dP "NoShare" 13 <|dR P "__static_attributes__" 274 78::[]) 4
def rg(P:Params):Obj:=wD (dF P 269 dP 13 <|dR P "__static_attributes__" 274 78::dE P "__doc__" 275 .none::[]) 2
def rf:Obj:=wX "NoShare" 80 79 71 262 270
def GI(P:Params):Obj:=wD (dC P 285 dP "NoRoom" 15 <|dR P "__init__" 297 96::dR P "__static_attributes__" 299 97::[]) 5
def q7:Obj:=cO "__init__" "NoRoom.__init__" 290 17 2 3 90 295
def qs:Obj:=fO "__init__" "NoRoom.__init__" (g_ 7 0) dP 95
def qr(P:Params):Obj:=wD (dF P 285 dP 15 <|dR P "__init__" 297 96::dR P "__static_attributes__" 299 97::dE P "__doc__" 300 .none::[]) 2
def qp:Obj:=wX "NoRoom" 99 98 83 278 286
def HM(P:Params):Obj:=wD (dC P 310 dP "NoPlan" 20 <|dR P "__init__" 322 115::dR P "__static_attributes__" 324 116::[]) 5
def uS:Obj:=cO "__init__" "NoPlan.__init__" 315 22 2 3 109 320
def tF:Obj:=fO "__init__" "NoPlan.__init__" (g_ 8 0) dP 114
def sO(P:Params):Obj:=wD (dF P 310 dP 20 <|dR P "__init__" 322 115::dR P "__static_attributes__" 324 116::dE P "__doc__" 325 .none::[]) 2
def AX:Obj:=wX "NoPlan" 118 117 102 303 311
def AY:Obj:=fV "is_whole" 10 rV 126
def A6:Obj:=tN 340 Qi
def zz:Obj:=fV "divisor" 11 rV 133
def AM:Obj:=⟨.type "tuple",none,.seq ⟨.int 0 350::.int 1 351::[]⟩ 0,⟨[]⟩⟩
def sq:Obj:=⟨.type "tuple",none,.seq ⟨.int 1 353::.int 1 354::[]⟩ 0,⟨[]⟩⟩
def vn:Obj:=fV "ratio" 15 g4 142
def vl:Obj:=fV "is_ratio" 16 g4 149
def sK:Obj:=fV "plus" 17 g4 156
def yk:Obj:=fV "minus" 18 g4 163
def CH:Obj:=fV "times" 19 g4 170
def At:Obj:=fV "over" 20 g4 177
def B9:Obj:=fV "under" 21 g4 184
def vw:Obj:=fV "level" 23 k5 189
def vh:Obj:=fV "total" 24 k5 196
def vi:Obj:=fV "greatest" 25 k5 203
def BO:Obj:=fV "least" 26 k5 210
def AA:Obj:=cV "first_plan" 450 88 1 3 212 453
def AO:Obj:=fV "first_plan" 28 i4 215
def CB:Obj:=fV "fits" 29 i4 222
def Bn:Obj:=cU "check_plan" 464 94 2 3 224 471
def Cf:Obj:=fV "check_plan" 30 i4 229
def B1:Obj:=cV "behind_door" 474 101 2 3 231 477
def v1:Obj:=fV "behind_door" 31 i4 234
def B6:Obj:=tN 483 Cw
def sF:Obj:=cU "raised_look" 480 104 3 3 236 487
def ui:Obj:=fV "raised_look" 32 i4 241
def v6:Obj:=fV "lowest" 34 fo 246
def yn:Obj:=cV "row_times" 498 113 2 3 248 501
def vc:Obj:=fV "row_times" 35 fo 251
def sA:Obj:=cV "row_plus" 504 115 3 3 253 507
def sy:Obj:=fV "row_plus" 36 fo 256
def CM:Obj:=cU "take_step" 510 122 2 3 258 516
def sf:Obj:=fV "take_step" 37 fo 263
def AL:Obj:=cU "number_at" 519 131 2 3 265 524
def sx:Obj:=fV "number_at" 38 fo 270
def wt:Obj:=cV "fractions_of" 527 133 1 3 272 530
def yg:Obj:=fV "fractions_of" 39 fo 275
def xx:Obj:=tN 536 Gb
def A8:Obj:=cU "first_from" 533 135 3 3 277 540
def u3:Obj:=fV "first_from" 40 fo 282
def y8:Obj:=fV "go_on" 41 fo 289
def yo:Obj:=tN 555 Jh
def AS:Obj:=cU "begin_row" 552 143 5 3 291 561
def sB:Obj:=fV "begin_row" 42 fo 296
def s_:Obj:=tN 567 yN
def BQ:Obj:=cU "clear_column" 564 149 4 3 298 573
def sM:Obj:=fV "clear_column" 43 fo 303
def ss:Obj:=fV "reduced" 44 fo 308
def v4:Obj:=cU "width_of" 584 166 1 3 310 588
def uB:Obj:=fV "width_of" 46 g0 315
def BH:Obj:=cV "with_rights" 591 170 2 3 317 594
def w':Obj:=fV "with_rights" 47 g0 320
def za:Obj:=cV "begins_of" 597 172 2 3 322 600
def A3:Obj:=fV "begins_of" 48 g0 325
def x5:Obj:=fV "odd_row" 49 g0 332
def tP:Obj:=tN 616 Iu
def vv:Obj:=cU "answer_of" 613 184 3 3 334 622
def AT:Obj:=fV "answer_of" 50 g0 339
def AG:Obj:=cV "single_rows" 625 189 1 3 341 628
def u7:Obj:=fV "single_rows" 51 g0 344
def Ct:Obj:=tN 634 Cq
def AE:Obj:=cU "only_answer" 631 191 2 3 346 639
def vT:Obj:=fV "only_answer" 52 g0 351
def tj:Obj:=cV "chosen_doors" 644 199 2 3 353 647
def vz:Obj:=fV "chosen_doors" 54 mV 356
def BS:Obj:=tN 653 I8
def yz:Obj:=cU "left_rows" 650 201 2 3 358 660
def vy:Obj:=fV "left_rows" 55 mV 363
def tI:Obj:=cV "worths_of" 663 208 2 3 365 666
def vb:Obj:=fV "worths_of" 56 mV 368
def BE:Obj:=cU "better_door" 671 214 2 3 370 677
def u0:Obj:=fV "better_door" 58 k4 375
def t3:Obj:=fV "mended" 59 k4 380
def yB:Obj:=cU "mendings" 686 227 2 3 382 693
def Cb:Obj:=fV "mendings" 60 k4 387
def uk:Obj:=fV "best_of" 61 k4 394
def AH:Obj:=cU "check_many" 707 239 1 3 396 711
def vj:Obj:=fV "check_many" 64 jp 401
def CA:Obj:=fV "lowered" 65 jp 408
def AV:Obj:=cV "best_round" 722 244 2 3 410 725
def Au:Obj:=fV "best_round" 66 jp 413
def ut:Obj:=cU "rounds_behind" 728 251 3 3 415 735
def AK:Obj:=fV "rounds_behind" 67 jp 420
def vS:Obj:=cU "best_rounds" 738 256 2 3 422 744
def A1:Obj:=fV "best_rounds" 68 jp 427
def CL:Obj:=cU "check_behind" 749 260 1 3 429 753
def uv:Obj:=fV "check_behind" 70 i9 434
def Bz:Obj:=fV "gains" 71 i9 439
def AQ:Obj:=fV "to_come" 72 i9 446
def sT:Obj:=cV "bounds_of" 770 267 2 3 448 773
def AD:Obj:=fV "bounds_of" 73 i9 451
def wm:Obj:=cU "round_plan" 776 277 2 3 453 781
def so:Obj:=fV "round_plan" 74 i9 458
def sk:Obj:=fV "is_word" 77 LO 463
def t5:Obj:=cU "check_head" 796 287 2 3 465 801
def u2:Obj:=fV "check_head" 79 tL 470
def w_:Obj:=cU "check_room_name" 804 292 1 3 472 808
def v_:Obj:=fV "check_room_name" 80 tL 477
def AB:Obj:=cU "check_chance" 811 295 1 3 479 815
def w8:Obj:=fV "check_chance" 81 tL 484
def AW:Obj:=cV "check_pairs" 818 298 1 3 486 821
def u9:Obj:=fV "check_pairs" 82 tL 489
def Cs:Obj:=cV "joined_ways" 824 304 1 3 491 827
def zq:Obj:=fV "joined_ways" 83 tL 494
def KU(P:Params):Obj:=wD (dC P 837 tL "Door" 309 <|dM P [("__init__",850,509),("ways",857,516),("chance_to",865,523),("__static_attributes__",869,524)]++[]) 7
def A':Obj:=cO "__init__" "Door.__init__" 842 311 3 3 503 848
def zr:Obj:=fO "__init__" "Door.__init__" (g_ 84 0) tL 508
def tm:Obj:=fO "ways" "Door.ways" (g_ 84 1) tL 515
def Cn:Obj:=cO "chance_to" "Door.chance_to" 858 320 2 3 517 863
def v3:Obj:=fO "chance_to" "Door.chance_to" (g_ 84 2) tL 522
def A4(P:Params):Obj:=wD (dF P 837 tL 309 <|dM P [("__init__",850,509),("ways",857,516),("chance_to",865,523),("__static_attributes__",869,524),("__dict__",871,527),("__weakref__",873,528)]++dE P "__doc__" 874 .none::[]) 4
def A7:Obj:=wK "Door" [.type "object"] [.ref 526,.type "object"] 525 [.ref 547,.ref 566] none 830 838 "object.__new__"
def B7:Obj:=⟨.type "getset_descriptor",none,.fields ⟨.str "__dict__" 870::.ref 526::.builtin "function.__dict__"::.builtin "function.__dict__#set"::[]⟩,⟨[]⟩⟩
def Kk(P:Params):Obj:=wD (dC P 884 tL "Sure" 322 <|dR P "__init__" 898 544::dR P "__static_attributes__" 900 545::[]) 5
def tS:Obj:=cO "__init__" "Sure.__init__" 889 324 4 3 538 896
def vk:Obj:=fO "__init__" "Sure.__init__" (g_ 85 0) tL 543
def zc(P:Params):Obj:=wD (dF P 884 tL 322 <|dR P "__init__" 898 544::dR P "__static_attributes__" 900 545::dE P "__doc__" 901 .none::[]) 2
def BD:Obj:=wK "Sure" [.ref 526] [.ref 547,.ref 526,.type "object"] 546 [] (some (.ref 531)) 877 885 "object.__new__"
def Iy(P:Params):Obj:=wD (dC P 911 tL "Mixed" 328 <|dR P "__init__" 925 563::dR P "__static_attributes__" 927 564::[]) 5
def B8:Obj:=cO "__init__" "Mixed.__init__" 916 330 4 3 557 923
def vu:Obj:=fO "__init__" "Mixed.__init__" (g_ 86 0) tL 562
def BB(P:Params):Obj:=wD (dF P 911 tL 328 <|dR P "__init__" 925 563::dR P "__static_attributes__" 927 564::dE P "__doc__" 928 .none::[]) 2
def ub:Obj:=wK "Mixed" [.ref 526] [.ref 566,.ref 526,.type "object"] 565 [.ref 585,.ref 602] (some (.ref 550)) 904 912 "object.__new__"
def K0(P:Params):Obj:=wD (dC P 938 tL "Toss" 334 <|dR P "__init__" 954 582::dR P "__static_attributes__" 955 583::[]) 5
def v5:Obj:=tN 946 I_
def tT:Obj:=cO "__init__" "Toss.__init__" 943 336 6 3 576 952
def t4:Obj:=fO "__init__" "Toss.__init__" (g_ 87 0) tL 581
def AR(P:Params):Obj:=wD (dF P 938 tL 334 <|dR P "__init__" 954 582::dR P "__static_attributes__" 955 583::dE P "__doc__" 956 .none::[]) 2
def sj:Obj:=wK "Toss" [.ref 566] [.ref 585,.ref 566,.ref 526,.type "object"] 584 [] (some (.ref 569)) 931 939 "object.__new__"
def HQ(P:Params):Obj:=wD (dC P 966 tL "Even" 340 <|dR P "__init__" 976 599::dR P "__static_attributes__" 977 600::[]) 5
def sQ:Obj:=cP "__init__" "Even.__init__" 971 342 4 3 595 974
def y9:Obj:=fO "__init__" "Even.__init__" (g_ 88 0) tL 598
def vF(P:Params):Obj:=wD (dF P 966 tL 340 <|dR P "__init__" 976 599::dR P "__static_attributes__" 977 600::dE P "__doc__" 978 .none::[]) 2
def A2:Obj:=wK "Even" [.ref 566] [.ref 602,.ref 566,.ref 526,.type "object"] 601 [] (some (.ref 588)) 959 967 "object.__new__"
def CF:Obj:=cU "check_share" 983 345 1 3 605 987
def wy:Obj:=fV "check_share" 90 Hi 610
def tq:Obj:=cU "numbers_of" 990 348 1 3 612 997
def wh:Obj:=fV "numbers_of" 91 Hi 617
def As:Obj:=tN 1003 xT
def AU:Obj:=cU "numbered_ways" 1000 356 2 3 619 1008
def yd:Obj:=fV "numbered_ways" 92 Hi 624
def zp:Obj:=tN 1014 Ja
def zv:Obj:=cU "offers_of" 1011 363 2 3 626 1019
def BV:Obj:=fV "offers_of" 93 Hi 631
def IU(P:Params):Obj:=wD (dC P 1029 Hi "Hall" 372 <|dM P [("__init__",1039,644),("size",1046,651),("names",1053,658),("place",1061,665),("check_room",1069,672),("door_at",1078,679),("offers",1084,684),("__static_attributes__",1088,685)]++[]) 11
def vt:Obj:=cP "__init__" "Hall.__init__" 1034 374 3 3 640 1037
def B5:Obj:=fO "__init__" "Hall.__init__" (g_ 94 0) Hi 643
def BU:Obj:=fO "size" "Hall.size" (g_ 94 1) Hi 650
def yf:Obj:=cO "names" "Hall.names" 1047 383 1 3 652 1051
def AJ:Obj:=fO "names" "Hall.names" (g_ 94 2) Hi 657
def zd:Obj:=cO "place" "Hall.place" 1054 386 2 3 659 1059
def sN:Obj:=fO "place" "Hall.place" (g_ 94 3) Hi 664
def BM:Obj:=cO "check_room" "Hall.check_room" 1062 391 2 3 666 1067
def sn:Obj:=fO "check_room" "Hall.check_room" (g_ 94 4) Hi 671
def ti:Obj:=cO "door_at" "Hall.door_at" 1070 395 3 3 673 1076
def Cc:Obj:=fO "door_at" "Hall.door_at" (g_ 94 5) Hi 678
def B2:Obj:=cP "offers" "Hall.offers" 1079 398 2 3 680 1082
def yy:Obj:=fO "offers" "Hall.offers" (g_ 94 6) Hi 683
def t0(P:Params):Obj:=wD (dF P 1029 Hi 372 <|dM P [("__init__",1039,644),("size",1046,651),("names",1053,658),("place",1061,665),("check_room",1069,672),("door_at",1078,679),("offers",1084,684),("__static_attributes__",1088,685),("__dict__",1090,688),("__weakref__",1092,689)]++dE P "__doc__" 1093 .none::[]) 4
def zb:Obj:=wK "Hall" [.type "object"] [.ref 687,.type "object"] 686 [] none 1022 1030 "object.__new__"
def By:Obj:=⟨.type "getset_descriptor",none,.fields ⟨.str "__dict__" 1089::.ref 687::.builtin "function.__dict__"::.builtin "function.__dict__#set"::[]⟩,⟨[]⟩⟩
def vp:Obj:=cU "_law_cell" 1098 402 2 3 692 1103
def w4:Obj:=fV "_law_cell" 96 qF 697
def A0:Obj:=tN 1109 Wr
def Bi:Obj:=cU "_law_stream" 1106 404 2 3 699 1115
def vm:Obj:=fV "_law_stream" 97 qF 704
def se:Obj:=tN 1121 Db
def A9:Obj:=cU "_law_gcd" 1118 415 2 3 706 1125
def tz:Obj:=fV "_law_gcd" 98 qF 711
def A5:Obj:=tN 1131 VD
def BY:Obj:=cU "_law_ratio" 1128 420 2 3 713 1134
def vx:Obj:=fV "_law_ratio" 99 qF 718
def y7:Obj:=cU "_law_is_ratio" 1137 423 1 3 720 1142
def u8:Obj:=fV "_law_is_ratio" 100 qF 725
def Ap:Obj:=cV "_law_are_ratios" 1145 430 2 3 727 1148
def BF:Obj:=fV "_law_are_ratios" 101 qF 730
def t7:Obj:=cU "_law_same" 1151 434 2 3 732 1156
def ue:Obj:=fV "_law_same" 102 qF 737
def BC:Obj:=cV "_law_names" 1159 436 2 3 739 1162
def tt:Obj:=fV "_law_names" 103 qF 742
def sP:Obj:=tN 1168 E9
def BA:Obj:=cU "_law_share" 1165 445 2 3 744 1172
def ww:Obj:=fV "_law_share" 104 qF 749
def v2:Obj:=tN 1178 C2
def BN:Obj:=cU "_law_pay" 1175 449 4 3 751 1182
def B4:Obj:=fV "_law_pay" 105 qF 756
def B':Obj:=cV "_law_door" 1185 457 3 3 758 1188
def x_:Obj:=fV "_law_door" 106 qF 761
def si:Obj:=cV "_law_doors" 1191 474 4 3 763 1194
def va:Obj:=fV "_law_doors" 107 qF 766
def uC:Obj:=cV "_law_built" 1197 484 3 3 768 1200
def ua:Obj:=fV "_law_built" 108 qF 771
def wH:Obj:=cV "_law_hall" 1203 494 3 3 773 1206
def CC:Obj:=fV "_law_hall" 109 qF 776
def ve:Obj:=cU "_law_below" 1220 510 2 3 785 1225
def AI:Obj:=fV "_law_below" 111 qF 790
def AF:Obj:=cU "_law_size" 1228 512 1 3 792 1233
def AZ:Obj:=fV "_law_size" 112 qF 797
def B3:Obj:=cU "_law_less" 1236 519 2 3 799 1241
def An:Obj:=fV "_law_less" 113 qF 804
def AN:Obj:=cV "_law_none_above" 1244 521 2 3 806 1247
def t8:Obj:=fV "_law_none_above" 114 qF 809
def AC:Obj:=cV "_law_alike" 1250 523 1 3 811 1253
def y':Obj:=fV "_law_alike" 115 qF 814
def sr:Obj:=tN 1259 Vs
def sL:Obj:=cU "_law_nearer" 1256 525 3 3 816 1263
def sC:Obj:=fV "_law_nearer" 116 qF 821
def FV(P:Params):BT:=nd (boot_o_0 P) (nd (boot_o_1 P) (nd (KF P) (nd (boot_o_7 P) (nd tE (nd rq (nd fE (nd AY (n2 (fU "row_plus" 36) fE va) (n1 fE (wF 638 635 "chancehall.halls" 981))) (nd tE (n1 (fU "with_rights" 47) (wF 574 571 "chancehall.doors" 794)) (n1 AQ (fU "_law_stream" 97)))) (nd q7 (nd fE (n2 tE tS tE) (n1 tE BM)) (nd CB (n1 AE (tN 986 ["share"])) (n1 tE tE)))) (nd (wT 31) (nd (rg P) (nd vn (n2 sx B7 (cU "_law_chosen" 1209 501 2 3 778 1217)) (n1 tE tE)) (nd (tN 442 rW) (n1 fE tE) (n1 (cV "is_word" 788 282 1 3 460 791) vx))) (nd (tN 318 dU) (nd tE (n2 BQ (tN 919 wj) y') (n1 (tN 752 ["many"]) zb)) (nd tE (n1 (fU "worths_of" 56) (fU "numbered_ways" 92)) (n1 zq tE))))) (nd wA (nd fE (nd (wT 31) (nd AM (n2 CM (tN 861 dU) (fU "_law_hall" 109)) (n1 (tN 699 ["hall"]) (tN 1043 ["self"]))) (nd fE (n1 tE tE) (n1 (tN 779 ji) A9))) (nd wA (nd (tN 393 cT) (n2 (fU "begin_row" 42) wA fE) (n1 fE Cc)) (nd tE (n1 fE tE) (n1 fE tt)))) (nd (rm P) (nd (⟨.none,none,.fields ⟨i3 17 4 95 <|[]⟩,⟨[]⟩⟩) (nd tE (n2 xx (⟨.none,none,.fields ⟨i3 324 4 543 <|[]⟩,⟨[]⟩⟩) AI) (n1 (fU "lowered" 65) (fT "place" "Hall.place" (g_ 94 3)))) (nd AA (n1 (fU "single_rows" 51) y9) (n1 u2 tE))) (nd (wS 118) (nd (fU "under" 21) (n1 fE (wS 566)) (n1 (cV "gains" 756 263 2 3 436 759) tE)) (nd v6 (n1 BE zv) (n1 tE fE)))))) (nd mM (nd (fU "_wall" 0) (nd (wT 31) (nd (rj P) (nd tE (n2 fE (cO "ways" "Door.ways" 851 317 1 3 510 855) uC) (n1 yB vt)) (nd (fU "total" 24) (n1 fE tE) (n1 sT fE))) (nd qp (nd (cU "minus" 382 58 2 3 158 387) (n2 tE BD (fU "_law_less" 113)) (n1 (fU "rounds_behind" 67) (tN 1073 yO))) (nd tE (n1 (fU "chosen_doors" 54) wy) (n1 (fU "check_chance" 81) tE)))) (nd fE (nd (wT 31) (nd tE (n2 wt (wT 526) (tN 1223 qy)) (n1 tE tE)) (nd BO (n1 vv tE) (n1 (tN 799 wg) tE))) (nd tF (nd tE (n2 (fU "reduced" 44) vu tE) (n1 uv (wB 687))) (nd tE (n1 fE fE) (n1 tE (fU "_law_pay" 105)))))) (nd (wC "HallError" 198 5 25 201) (nd (ro P) (nd fE (nd (tN 359 T3) (n2 (tN 522 Aa) v3 fE) (n1 uk BU)) (nd (cU "greatest" 430 75 1 3 198 436) (n1 (fU "odd_row" 49) (wB 585)) (n1 so A5))) (nd (wC "NoPlan" 305 20 105 308) (nd CH (n2 fE (wC "Mixed" 906 328 553 909) tE) (n1 vS B2)) (nd v1 (n1 yz tE) (n1 tE tE)))) (nd (wT 31) (nd fE (nd (fU "plus" 17) (n2 u3 fE tE) (n1 fE fE)) (nd (tN 459 Xx) (n1 fE (wS 602)) (n1 tE BF))) (nd (tN 333 ["thing"]) (nd fE (n1 v4 (K0 P)) (n1 (tN 765 Ih) tE)) (nd yn (n1 (fU "mended" 59) (IU P)) (n1 (fT "__init__" "Door.__init__" (g_ 84 0)) tE))))))) (nd (boot_o_5 P) (nd (boot_o_9 P) (nd (tN 190 ["k"]) (nd (wS 31) (nd (wF 64 61 "chancehall.errors" 194) (nd fE (n2 sy tE fE) (n1 tE fE)) (nd (tN 425 R4) (n1 w' fE) (n1 fE vm))) (nd (tN 298 ["room"]) (nd tE (n2 (cU "go_on" 543 140 3 3 284 549) (tN 899 ["leads"]) (tN 1239 qy)) (n1 (tN 731 qd) tE)) (nd fE (n1 tE (fU "check_share" 90)) (n1 (tN 814 ["chance"]) t7)))) (nd (GN P) (nd (wS 80) (nd fE (n2 fE (wS 526) tE) (n1 AH yf)) (nd (fU "least" 26) (n1 tE (wC "Even" 961 340 591 964)) (n1 tE fE))) (nd (fT "__init__" "NoPlan.__init__" (g_ 8 0)) (nd (cU "over" 398 62 2 3 172 403) (n2 tE (fT "__init__" "Mixed.__init__" (g_ 86 0)) fE) (n1 (fU "check_behind" 70) (wG 1091 687))) (nd sF (n1 vb yd) (n1 wA v2))))) (nd tE (nd (wF 40 37 "chancehall.errors" 194) (nd (GL P) (nd tE (n2 tE (fT "chance_to" "Door.chance_to" (g_ 84 2)) CC) (n1 (fU "best_of" 61) (fT "size" "Hall.size" (g_ 94 1)))) (nd tE (n1 (tN 606 Hu) sj) (n1 (fU "round_plan" 74) tE))) (nd tE (nd (fU "times" 19) (n2 sB tE AN) (n1 (tN 743 ["hall"]) fE)) (nd (fU "behind_door" 31) (n1 tE tq) (n1 AW fE)))) (nd (wS 56) (nd (wF 88 85 "chancehall.errors" 194) (nd (tN 377 cT) (n2 (fU "first_from" 40) (wF 536 533 "chancehall.doors" 794) fE) (n1 CA sN)) (nd tE (n1 u7 (vF P)) (n1 fE (fU "_law_are_ratios" 101)))) (nd tE (nd B9 (n1 tE (wT 566)) (n1 tE vp)) (nd fE (n1 tE tE) (n1 (tN 845 yw) B')))))) (nd mI (nd rL (nd (GS P) (nd (wS 68) (nd (cU "divisor" 337 28 2 3 128 345) (n2 tE tE tE) (n1 tE tE)) (nd vh (n1 za tT) (n1 tE tE))) (nd (wB 99) (nd tE (n2 yo (wB 547) An) (n1 AK (fT "door_at" "Hall.door_at" (g_ 94 5)))) (nd Bn (n1 vz fE) (n1 w8 (fU "_law_names" 103))))) (nd (wF 52 49 "chancehall.errors" 194) (nd (GI P) (nd (cU "is_ratio" 365 48 1 3 144 371) (n2 tE (Kk P) (fU "_law_below" 111)) (n1 (tN 717 HS) (tN 1057 Gv))) (nd fE (n1 tE (fT "__init__" "Even.__init__" (g_ 88 0))) (n1 (fU "check_head" 79) y7))) (nd (sO P) (nd (tN 409 cT) (n2 ss (BB P) sL) (n1 fE fE)) (nd (fU "lowest" 34) (n1 tE tE) (n1 (wC "Door" 832 309 499 835) B4))))) (nd tE (nd (wS 44) (nd (wF 76 73 "chancehall.errors" 194) (nd (fU "ratio" 15) (n2 (fU "number_at" 38) (A4 P) tE) (n1 fE fE)) (nd tE (n1 x5 wA) (n1 fE (fU "_law_ratio" 99)))) (nd tE (nd fE (n2 tE tE (fU "_law_alike" 115)) (n1 tE (tN 1085 ["numbers","offered","share"]))) (nd fE (n1 tE As) (n1 (fU "joined_ways" 83) BA)))) (nd (GM P) (nd tE (nd sK (n2 fE tE AF) (n1 AV tE)) (nd (fU "fits" 29) (n1 tE tE) (n1 w_ fE))) (nd (fU "is_whole" 10) (nd (cV "level" 416 67 1 3 186 419) (n1 tE (⟨.none,none,.fields ⟨i3 336 4 581 <|[]⟩,⟨[]⟩⟩)) (n1 (fU "to_come" 72) A0)) (nd tE (n1 t3 (⟨.none,none,.fields ⟨i3 374 4 643 <|i3 380 4 650 <|i3 383 4 657 <|i3 386 4 664 <|i3 391 4 671 <|i3 395 4 678 <|i3 398 4 683 <|[]⟩,⟨[]⟩⟩)) (n1 zr (fU "_law_doors" 107))))))))) (nd (boot_o_2 P) (nd (boot_o_4 P) (nd (boot_o_8 P) (nd fE (nd (wG 209 31) (nd (wC "NoChance" 248 11 62 251) (nd tE (n2 sA (tN 854 ["self"]) tE) (n1 (tN 689 Dk) tE)) (nd fE (n1 BH tE) (n1 tE Bi))) (nd qs (nd (tN 385 cT) (n2 (fU "go_on" 41) vk fE) (n1 fE sn)) (nd tE (n1 vT tE) (n1 fE (fU "_law_same" 102))))) (nd wA (nd rf (nd tE (n2 tE (wG 872 526) (fV "_law_chosen" 110 qF 783)) (n1 (fU "check_many" 64) (fT "names" "Hall.names" (g_ 94 2)))) (nd tE (n1 tP (⟨.none,none,.fields ⟨i3 342 4 598 <|[]⟩,⟨[]⟩⟩)) (n1 sk tE))) (nd tE (nd (fU "over" 20) (n2 sM tE tE) (n1 tE By)) (nd (fU "raised_look" 32) (n1 tI AU) (n1 tE fE))))) (nd (GT P) (nd (wC "NoNumber" 216 7 38 219) (nd wA (nd sq (n2 sf tE wH) (n1 tE tE)) (nd (tN 433 rW) (n1 fE (AR P)) (n1 tE tz))) (nd (HM P) (nd tE (n2 AS (Iy P) (fU "_law_none_above" 114)) (n1 (tN 741 ji) tE)) (nd fE (n1 BS (fU "numbers_of" 91)) (n1 (fU "check_pairs" 82) tE)))) (nd rk (nd (wC "NoRoom" 280 15 86 283) (nd fE (n2 tE (wC "Sure" 879 322 534 882) tE) (n1 (cU "lowered" 714 242 2 3 403 719) zd)) (nd AO (n1 AG tE) (n1 tE fE))) (nd (wB 118) (nd (cU "under" 406 64 2 3 179 411) (n1 (tN 587 ["rows"]) (wB 566)) (n1 Bz (fU "_law_cell" 96))) (nd tE (n1 u0 BV) (n1 fE (fU "_law_door" 106))))))) (nd (⟨.none,none,.fields ⟨i3 1 0 20 <|i3 5 0 27 <|i3 7 0 40 <|i3 9 0 52 <|i3 11 0 64 <|i3 13 0 76 <|i3 15 0 88 <|i3 20 0 107 <|i3 26 0 126 <|i3 28 0 133 <|i3 39 0 142 <|i3 48 0 149 <|i3 56 0 156 <|i3 58 0 163 <|i3 60 0 170 <|i3 62 0 177 <|i3 64 0 184 <|i3 67 0 189 <|i3 72 0 196 <|i3 75 0 203 <|i3 81 0 210 <|i3 88 0 215 <|i3 90 0 222 <|i3 94 0 229 <|i3 101 0 234 <|i3 104 0 241 <|i3 108 0 246 <|i3 113 0 251 <|i3 115 0 256 <|i3 122 0 263 <|i3 131 0 270 <|i3 133 0 275 <|i3 135 0 282 <|i3 140 0 289 <|i3 143 0 296 <|i3 149 0 303 <|i3 154 0 308 <|i3 166 0 315 <|i3 170 0 320 <|i3 172 0 325 <|i3 179 0 332 <|i3 184 0 339 <|i3 189 0 344 <|i3 191 0 351 <|i3 199 0 356 <|i3 201 0 363 <|i3 208 0 368 <|i3 214 0 375 <|i3 219 0 380 <|i3 227 0 387 <|i3 235 0 394 <|i3 239 0 401 <|i3 242 0 408 <|i3 244 0 413 <|i3 251 0 420 <|i3 256 0 427 <|i3 260 0 434 <|i3 263 0 439 <|i3 265 0 446 <|i3 267 0 451 <|i3 277 0 458 <|i3 282 0 463 <|i3 287 0 470 <|i3 292 0 477 <|i3 295 0 484 <|i3 298 0 489 <|i3 304 0 494 <|i3 309 0 501 <|i3 322 0 536 <|i3 328 0 555 <|i3 334 0 574 <|i3 340 0 593 <|i3 345 0 610 <|i3 348 0 617 <|i3 356 0 624 <|i3 363 0 631 <|i3 372 0 638 <|i3 402 0 697 <|i3 404 0 704 <|i3 415 0 711 <|i3 420 0 718 <|i3 423 0 725 <|i3 430 0 730 <|i3 434 0 737 <|i3 436 0 742 <|i3 445 0 749 <|i3 449 0 756 <|i3 457 0 761 <|i3 474 0 766 <|i3 484 0 771 <|i3 494 0 776 <|i3 501 0 783 <|i3 510 0 790 <|i3 512 0 797 <|i3 519 0 804 <|i3 521 0 809 <|i3 523 0 814 <|i3 525 0 821 <|[]⟩,⟨[]⟩⟩) (nd (cU "_wall" 187 1 1 3 15 191) (nd wA (nd rh (nd (fU "divisor" 11) (n2 (tN 513 Ax) tm ua) (n1 Cb B5)) (nd (cU "total" 422 72 1 3 191 427) (n1 (fU "begins_of" 48) (fT "__init__" "Toss.__init__" (g_ 87 0))) (n1 AD se))) (nd (wS 99) (nd yk (n2 fE (wS 547) B3) (n1 ut tE)) (nd (fU "check_plan" 30) (n1 tj tE) (n1 AB fE)))) (nd (wC "NoName" 232 9 50 235) (nd wA (nd (fU "is_ratio" 16) (n2 yg wA tE) (n1 fE fE)) (nd tE (n1 AT fE) (n1 tE (fU "_law_is_ratio" 100)))) (nd (tN 323 ["room"]) (nd fE (n2 (cV "reduced" 576 154 2 3 305 579) (tN 926 ["leads"]) (fU "_law_nearer" 116)) (n1 tE tE)) (nd fE (n1 (tN 674 uo) zp) (n1 (⟨.none,none,.fields ⟨i3 311 4 508 <|i3 317 4 515 <|i3 320 4 522 <|[]⟩,⟨[]⟩⟩) BN))))) (nd (wF 27 24 "chancehall.errors" 194) (nd rn (nd (wC "NoShare" 264 13 74 267) (nd tE (n2 tE (tN 866 ["leads","name","pay"]) (tN 1212 ac3)) (n1 tE tE)) (nd vi (n1 (cU "odd_row" 603 179 3 3 327 610) (wT 566)) (n1 tE tE))) (nd (wF 107 104 "chancehall.errors" 194) (nd tE (n2 s_ (wF 555 552 "chancehall.doors" 794) fE) (n1 A1 yy)) (nd tE (n1 vy fE) (n1 fE (fU "_law_share" 104))))) (nd wA (nd (tN 293 dU) (nd (cU "plus" 374 56 2 3 151 379) (n2 tE (tN 892 Ah) (fU "_law_size" 112)) (n1 (fU "best_round" 66) (tN 1065 dU))) (nd tE (n1 Ct (wB 602)) (n1 (fU "check_room_name" 80) tE))) (nd tE (nd (fU "level" 23) (n1 uB tE) (n1 tE fE)) (nd vc (n1 (cV "mended" 680 219 3 3 377 683) tE) (n1 A' fE))))))) (nd (boot_o_6 P) (nd (boot_o_10 P) (nd tE (nd (wB 31) (nd tE (nd A6 (n2 tE (fT "ways" "Door.ways" (g_ 84 1)) (fU "_law_built" 108)) (n1 (fU "mendings" 60) (fT "__init__" "Hall.__init__" (g_ 94 0)))) (nd tE (n1 tE v5) (n1 (fU "bounds_of" 73) tE))) (nd (qr P) (nd (fU "minus" 18) (n2 y8 (zc P) tE) (n1 tE fE)) (nd (tN 467 vM) (n1 fE CF) (n1 tE ue)))) (nd tE (nd (wB 80) (nd (tN 368 Dj) (n2 (fU "fractions_of" 39) (wB 526) fE) (n1 vj AJ)) (nd (cU "least" 439 81 1 3 205 445) (n1 (fU "answer_of" 50) (wF 593 590 "chancehall.doors" 794)) (n1 fE (tN 1140 zH)))) (nd uS (nd At (n2 fE B8 sr) (n1 CL (wS 687))) (nd ui (n1 tE tE) (n1 (KU P) tE))))) (nd fE (nd tE (nd tE (nd fE (n2 fE Cn tE) (n1 (cU "best_of" 696 235 1 3 389 700) (cO "size" "Hall.size" 1040 380 1 3 645 1044))) (nd (fU "greatest" 25) (n1 tE (wS 585)) (n1 wm fE))) (nd (⟨.none,none,.fields ⟨i3 22 4 114 <|[]⟩,⟨[]⟩⟩) (nd (cU "times" 390 60 2 3 165 395) (n2 tE (⟨.none,none,.fields ⟨i3 330 4 562 <|[]⟩,⟨[]⟩⟩) t8) (n1 (fU "best_rounds" 68) (fT "offers" "Hall.offers" (g_ 94 6)))) (nd B1 (n1 (fU "left_rows" 55) wh) (n1 u9 sP)))) (nd (wB 56) (nd tE (nd tE (n2 A8 tE (tN 1231 Yl)) (n1 tE tE)) (nd fE (n1 tE A2) (n1 (tN 807 ["room"]) Ap))) (nd fE (nd tE (n1 (fU "width_of" 46) wA) (n1 fE w4)) (nd (fU "row_times" 35) (n1 fE wA) (n1 tE x_)))))) (nd mF (nd rs (nd tE (nd (wB 68) (nd zz (n2 (fU "take_step" 37) fE fE) (n1 fE fE)) (nd tE (n1 A3 t4) (n1 fE (fU "_law_gcd" 98)))) (nd (wT 31) (nd fE (n2 tE (wT 526) tE) (n1 tE ti)) (nd Cf (n1 tE (tN 993 vY)) (n1 tE BC)))) (nd tE (nd tE (nd vl (n2 fE tE ve) (n1 tE tE)) (nd (fU "first_plan" 28) (n1 fE sQ) (n1 t5 u8))) (nd AX (nd tE (n2 tE ub sC) (n1 (fU "gains" 71) (tN 1101 YJ))) (nd (cV "lowest" 492 108 2 3 243 495) (n1 (fU "better_door" 58) (fU "offers_of" 93)) (n1 (wF 501 498 "chancehall.doors" 794) tE))))) (nd (rr P) (nd (wB 44) (nd tE (nd (cU "ratio" 356 39 2 3 137 362) (n2 AL A7 (fU "_law_chosen" 110)) (n1 (tN 710 ["many"]) (tN 1050 ["self"]))) (nd fE (n1 tE (HQ P)) (n1 (fU "is_word" 77) BY))) (nd fE (nd (tN 401 cT) (n2 (fU "clear_column" 43) fE AC) (n1 fE (t0 P))) (nd B6 (n1 fE tE) (n1 Cs ww)))) (nd tE (nd (fT "__init__" "NoRoom.__init__" (g_ 7 0)) (nd tE (n2 (tN 546 Ub) (fT "__init__" "Sure.__init__" (g_ 85 0)) AZ) (n1 Au (fT "check_room" "Hall.check_room" (g_ 94 4)))) (nd (cU "fits" 456 90 2 3 217 461) (n1 (fU "only_answer" 52) fE) (n1 v_ (tN 1154 qy)))) (nd (cU "is_whole" 330 26 1 3 121 334) (nd vw (n1 fE (wC "Toss" 933 334 572 936)) (n1 (cU "to_come" 762 265 2 3 441 767) tE)) (nd fE (n1 tE (wC "Hall" 1024 372 636 1027)) (n1 tE si))))))))
def S1(w:World)(os:OsState):SharedT:=⟨FV w.params,823,{},⟨[]⟩,{},1266,os⟩
def e1:Pos:=⟨525,0,529,142⟩
def KH:Params->Frag:=λP=>((nat_lit 2,boot_o_2 P)::(nat_lit 3,zM P [("_law_within",1271,827),("law",1277,832)] 113)::(nat_lit 15,tE)::(nat_lit 17,tN 190 ["k"])::(nat_lit 18,tE)::(nat_lit 20,cU "_wall" 187 1 1 3 15 191)::(nat_lit 21,rL)::(nat_lit 22,rs)::(nat_lit 29,tE)::(nat_lit 30,rr P)::(nat_lit 31,rq)::(nat_lit 32,(wG 209 31))::(nat_lit 35,(wT 31))::(nat_lit 42,tE)::(nat_lit 43,ro P)::(nat_lit 44,rn)::(nat_lit 47,(wT 31))::(nat_lit 54,tE)::(nat_lit 55,rm P)::(nat_lit 56,rk)::(nat_lit 59,(wT 31))::(nat_lit 66,tE)::(nat_lit 67,rj P)::(nat_lit 68,rh)::(nat_lit 71,(wT 31))::(nat_lit 78,tE)::(nat_lit 79,rg P)::(nat_lit 80,rf)::(nat_lit 83,(wT 31))::(nat_lit 90,tE)::(nat_lit 92,tN 293 dU)::(nat_lit 93,tE)::(nat_lit 95,q7)::(nat_lit 96,qs)::(nat_lit 97,tN 298 ["room"])::(nat_lit 98,qr P)::(nat_lit 99,qp)::(nat_lit 102,(wT 31))::(nat_lit 109,tE)::(nat_lit 111,tN 318 dU)::(nat_lit 112,tE)::(nat_lit 114,uS)::(nat_lit 115,tF)::(nat_lit 116,tN 323 ["room"])::(nat_lit 117,sO P)::(nat_lit 118,AX)::(nat_lit 121,tE)::(nat_lit 123,tN 333 ["thing"])::(nat_lit 124,tE)::(nat_lit 126,cU "is_whole" 330 26 1 3 121 334)::(nat_lit 127,AY)::(nat_lit 128,tE)::(nat_lit 130,A6)::(nat_lit 131,tE)::(nat_lit 133,cU "divisor" 337 28 2 3 128 345)::(nat_lit 134,zz)::(nat_lit 135,AM)::(nat_lit 136,sq)::(nat_lit 137,tE)::(nat_lit 139,tN 359 T3)::(nat_lit 140,tE)::(nat_lit 142,cU "ratio" 356 39 2 3 137 362)::(nat_lit 143,vn)::(nat_lit 144,tE)::(nat_lit 146,tN 368 Dj)::(nat_lit 147,tE)::(nat_lit 149,cU "is_ratio" 365 48 1 3 144 371)::(nat_lit 150,vl)::(nat_lit 151,tE)::(nat_lit 153,tN 377 cT)::(nat_lit 154,tE)::(nat_lit 156,cU "plus" 374 56 2 3 151 379)::(nat_lit 157,sK)::(nat_lit 158,tE)::(nat_lit 160,tN 385 cT)::(nat_lit 161,tE)::(nat_lit 163,cU "minus" 382 58 2 3 158 387)::(nat_lit 164,yk)::(nat_lit 165,tE)::(nat_lit 167,tN 393 cT)::(nat_lit 168,tE)::(nat_lit 170,cU "times" 390 60 2 3 165 395)::(nat_lit 171,CH)::(nat_lit 172,tE)::(nat_lit 174,tN 401 cT)::(nat_lit 175,tE)::(nat_lit 177,cU "over" 398 62 2 3 172 403)::(nat_lit 178,At)::(nat_lit 179,tE)::(nat_lit 181,tN 409 cT)::(nat_lit 182,tE)::(nat_lit 184,cU "under" 406 64 2 3 179 411)::(nat_lit 185,B9)::(nat_lit 186,tE)::(nat_lit 189,cV "level" 416 67 1 3 186 419)::(nat_lit 190,vw)::(nat_lit 191,tE)::(nat_lit 193,tN 425 R4)::(nat_lit 194,tE)::(nat_lit 196,cU "total" 422 72 1 3 191 427)::(nat_lit 197,vh)::(nat_lit 198,tE)::(nat_lit 200,tN 433 rW)::(nat_lit 201,tE)::(nat_lit 203,cU "greatest" 430 75 1 3 198 436)::(nat_lit 204,vi)::(nat_lit 205,tE)::(nat_lit 207,tN 442 rW)::(nat_lit 208,tE)::(nat_lit 210,cU "least" 439 81 1 3 205 445)::(nat_lit 211,BO)::(nat_lit 212,tE)::(nat_lit 215,AA)::(nat_lit 216,AO)::(nat_lit 217,tE)::(nat_lit 219,tN 459 Xx)::(nat_lit 220,tE)::(nat_lit 222,cU "fits" 456 90 2 3 217 461)::(nat_lit 223,CB)::(nat_lit 224,tE)::(nat_lit 226,tN 467 vM)::(nat_lit 227,tE)::(nat_lit 229,Bn)::(nat_lit 230,Cf)::(nat_lit 231,tE)::(nat_lit 234,B1)::(nat_lit 235,v1)::(nat_lit 236,tE)::(nat_lit 238,B6)::(nat_lit 239,tE)::(nat_lit 241,sF)::(nat_lit 242,ui)::(nat_lit 243,tE)::(nat_lit 246,cV "lowest" 492 108 2 3 243 495)::(nat_lit 247,v6)::(nat_lit 248,tE)::(nat_lit 251,yn)::(nat_lit 252,vc)::(nat_lit 253,tE)::(nat_lit 256,sA)::(nat_lit 257,sy)::(nat_lit 258,tE)::(nat_lit 260,tN 513 Ax)::(nat_lit 261,tE)::(nat_lit 263,CM)::(nat_lit 264,sf)::(nat_lit 265,tE)::(nat_lit 267,tN 522 Aa)::(nat_lit 268,tE)::(nat_lit 270,AL)::(nat_lit 271,sx)::(nat_lit 272,tE)::(nat_lit 275,wt)::(nat_lit 276,yg)::(nat_lit 277,tE)::(nat_lit 279,xx)::(nat_lit 280,tE)::(nat_lit 282,A8)::(nat_lit 283,u3)::(nat_lit 284,tE)::(nat_lit 286,tN 546 Ub)::(nat_lit 287,tE)::(nat_lit 289,cU "go_on" 543 140 3 3 284 549)::(nat_lit 290,y8)::(nat_lit 291,tE)::(nat_lit 293,yo)::(nat_lit 294,tE)::(nat_lit 296,AS)::(nat_lit 297,sB)::(nat_lit 298,tE)::(nat_lit 300,s_)::(nat_lit 301,tE)::(nat_lit 303,BQ)::(nat_lit 304,sM)::(nat_lit 305,tE)::(nat_lit 308,cV "reduced" 576 154 2 3 305 579)::(nat_lit 309,ss)::(nat_lit 310,tE)::(nat_lit 312,tN 587 ["rows"])::(nat_lit 313,tE)::(nat_lit 315,v4)::(nat_lit 316,uB)::(nat_lit 317,tE)::(nat_lit 320,BH)::(nat_lit 321,w')::(nat_lit 322,tE)::(nat_lit 325,za)::(nat_lit 326,A3)::(nat_lit 327,tE)::(nat_lit 329,tN 606 Hu)::(nat_lit 330,tE)::(nat_lit 332,cU "odd_row" 603 179 3 3 327 610)::(nat_lit 333,x5)::(nat_lit 334,tE)::(nat_lit 336,tP)::(nat_lit 337,tE)::(nat_lit 339,vv)::(nat_lit 340,AT)::(nat_lit 341,tE)::(nat_lit 344,AG)::(nat_lit 345,u7)::(nat_lit 346,tE)::(nat_lit 348,Ct)::(nat_lit 349,tE)::(nat_lit 351,AE)::(nat_lit 352,vT)::(nat_lit 353,tE)::(nat_lit 356,tj)::(nat_lit 357,vz)::(nat_lit 358,tE)::(nat_lit 360,BS)::(nat_lit 361,tE)::(nat_lit 363,yz)::(nat_lit 364,vy)::(nat_lit 365,tE)::(nat_lit 368,tI)::(nat_lit 369,vb)::(nat_lit 370,tE)::(nat_lit 372,tN 674 uo)::(nat_lit 373,tE)::(nat_lit 375,BE)::(nat_lit 376,u0)::(nat_lit 377,tE)::(nat_lit 380,cV "mended" 680 219 3 3 377 683)::(nat_lit 381,t3)::(nat_lit 382,tE)::(nat_lit 384,tN 689 Dk)::(nat_lit 385,tE)::(nat_lit 387,yB)::(nat_lit 388,Cb)::(nat_lit 389,tE)::(nat_lit 391,tN 699 ["hall"])::(nat_lit 392,tE)::(nat_lit 394,cU "best_of" 696 235 1 3 389 700)::(nat_lit 395,uk)::(nat_lit 396,tE)::(nat_lit 398,tN 710 ["many"])::(nat_lit 399,tE)::(nat_lit 401,AH)::(nat_lit 402,vj)::(nat_lit 403,tE)::(nat_lit 405,tN 717 HS)::(nat_lit 406,tE)::(nat_lit 408,cU "lowered" 714 242 2 3 403 719)::(nat_lit 409,CA)::(nat_lit 410,tE)::(nat_lit 413,AV)::(nat_lit 414,Au)::(nat_lit 415,tE)::(nat_lit 417,tN 731 qd)::(nat_lit 418,tE)::(nat_lit 420,ut)::(nat_lit 421,AK)::(nat_lit 422,tE)::(nat_lit 424,tN 741 ji)::(nat_lit 425,tN 743 ["hall"])::(nat_lit 427,vS)::(nat_lit 428,A1)::(nat_lit 429,tE)::(nat_lit 431,tN 752 ["many"])::(nat_lit 432,tE)::(nat_lit 434,CL)::(nat_lit 435,uv)::(nat_lit 436,tE)::(nat_lit 439,cV "gains" 756 263 2 3 436 759)::(nat_lit 440,Bz)::(nat_lit 441,tE)::(nat_lit 443,tN 765 Ih)::(nat_lit 444,tE)::(nat_lit 446,cU "to_come" 762 265 2 3 441 767)::(nat_lit 447,AQ)::(nat_lit 448,tE)::(nat_lit 451,sT)::(nat_lit 452,AD)::(nat_lit 453,tE)::(nat_lit 455,tN 779 ji)::(nat_lit 456,tE)::(nat_lit 458,wm)::(nat_lit 459,so)::(nat_lit 460,tE)::(nat_lit 463,cV "is_word" 788 282 1 3 460 791)::(nat_lit 464,sk)::(nat_lit 465,tE)::(nat_lit 467,tN 799 wg)::(nat_lit 468,tE)::(nat_lit 470,t5)::(nat_lit 471,u2)::(nat_lit 472,tE)::(nat_lit 474,tN 807 ["room"])::(nat_lit 475,tE)::(nat_lit 477,w_)::(nat_lit 478,v_)::(nat_lit 479,tE)::(nat_lit 481,tN 814 ["chance"])::(nat_lit 482,tE)::(nat_lit 484,AB)::(nat_lit 485,w8)::(nat_lit 486,tE)::(nat_lit 489,AW)::(nat_lit 490,u9)::(nat_lit 491,tE)::(nat_lit 494,Cs)::(nat_lit 495,zq)::(nat_lit 503,tE)::(nat_lit 505,tN 845 yw)::(nat_lit 506,tE)::(nat_lit 508,A')::(nat_lit 509,zr)::(nat_lit 510,tE)::(nat_lit 512,tN 854 ["self"])::(nat_lit 513,tE)::(nat_lit 515,cO "ways" "Door.ways" 851 317 1 3 510 855)::(nat_lit 516,tm)::(nat_lit 517,tE)::(nat_lit 519,tN 861 dU)::(nat_lit 520,tE)::(nat_lit 522,Cn)::(nat_lit 523,v3)::(nat_lit 524,tN 866 ["leads","name","pay"])::(nat_lit 525,A4 P)::(nat_lit 526,A7)::(nat_lit 527,B7)::(nat_lit 528,(wG 872 526))::(nat_lit 531,(wT 526))::(nat_lit 538,tE)::(nat_lit 540,tN 892 Ah)::(nat_lit 541,tE)::(nat_lit 543,tS)::(nat_lit 544,vk)::(nat_lit 545,tN 899 ["leads"])::(nat_lit 546,zc P)::(nat_lit 547,BD)::(nat_lit 550,(wT 526))::(nat_lit 557,tE)::(nat_lit 559,tN 919 wj)::(nat_lit 560,tE)::(nat_lit 562,B8)::(nat_lit 563,vu)::(nat_lit 564,tN 926 ["leads"])::(nat_lit 565,BB P)::(nat_lit 566,ub)::(nat_lit 569,(wT 566))::(nat_lit 576,tE)::(nat_lit 578,v5)::(nat_lit 579,tE)::(nat_lit 581,tT)::(nat_lit 582,t4)::(nat_lit 583,tE)::(nat_lit 584,AR P)::(nat_lit 585,sj)::(nat_lit 588,(wT 566))::(nat_lit 595,tE)::(nat_lit 598,sQ)::(nat_lit 599,y9)::(nat_lit 600,tE)::(nat_lit 601,vF P)::(nat_lit 602,A2)::(nat_lit 605,tE)::(nat_lit 607,tN 986 ["share"])::(nat_lit 608,tE)::(nat_lit 610,CF)::(nat_lit 611,wy)::(nat_lit 612,tE)::(nat_lit 614,tN 993 vY)::(nat_lit 615,tE)::(nat_lit 617,tq)::(nat_lit 618,wh)::(nat_lit 619,tE)::(nat_lit 621,As)::(nat_lit 622,tE)::(nat_lit 624,AU)::(nat_lit 625,yd)::(nat_lit 626,tE)::(nat_lit 628,zp)::(nat_lit 629,tE)::(nat_lit 631,zv)::(nat_lit 632,BV)::(nat_lit 640,tE)::(nat_lit 643,vt)::(nat_lit 644,B5)::(nat_lit 645,tE)::(nat_lit 647,tN 1043 ["self"])::(nat_lit 648,tE)::(nat_lit 650,cO "size" "Hall.size" 1040 380 1 3 645 1044)::(nat_lit 651,BU)::(nat_lit 652,tE)::(nat_lit 654,tN 1050 ["self"])::(nat_lit 655,tE)::(nat_lit 657,yf)::(nat_lit 658,AJ)::(nat_lit 659,tE)::(nat_lit 661,tN 1057 Gv)::(nat_lit 662,tE)::(nat_lit 664,zd)::(nat_lit 665,sN)::(nat_lit 666,tE)::(nat_lit 668,tN 1065 dU)::(nat_lit 669,tE)::(nat_lit 671,BM)::(nat_lit 672,sn)::(nat_lit 673,tE)::(nat_lit 675,tN 1073 yO)::(nat_lit 676,tE)::(nat_lit 678,ti)::(nat_lit 679,Cc)::(nat_lit 680,tE)::(nat_lit 683,B2)::(nat_lit 684,yy)::(nat_lit 685,tN 1085 ["numbers","offered","share"])::(nat_lit 686,t0 P)::(nat_lit 687,zb)::(nat_lit 688,By)::(nat_lit 689,(wG 1091 687))::(nat_lit 692,tE)::(nat_lit 694,tN 1101 YJ)::(nat_lit 695,tE)::(nat_lit 697,vp)::(nat_lit 698,w4)::(nat_lit 699,tE)::(nat_lit 701,A0)::(nat_lit 702,tE)::(nat_lit 704,Bi)::(nat_lit 705,vm)::(nat_lit 706,tE)::(nat_lit 708,se)::(nat_lit 709,tE)::(nat_lit 711,A9)::(nat_lit 712,tz)::(nat_lit 713,tE)::(nat_lit 715,A5)::(nat_lit 716,tE)::(nat_lit 718,BY)::(nat_lit 719,vx)::(nat_lit 720,tE)::(nat_lit 722,tN 1140 zH)::(nat_lit 723,tE)::(nat_lit 725,y7)::(nat_lit 726,u8)::(nat_lit 727,tE)::(nat_lit 730,Ap)::(nat_lit 731,BF)::(nat_lit 732,tE)::(nat_lit 734,tN 1154 qy)::(nat_lit 735,tE)::(nat_lit 737,t7)::(nat_lit 738,ue)::(nat_lit 739,tE)::(nat_lit 742,BC)::(nat_lit 743,tt)::(nat_lit 744,tE)::(nat_lit 746,sP)::(nat_lit 747,tE)::(nat_lit 749,BA)::(nat_lit 750,ww)::(nat_lit 751,tE)::(nat_lit 753,v2)::(nat_lit 754,tE)::(nat_lit 756,BN)::(nat_lit 757,B4)::(nat_lit 758,tE)::(nat_lit 761,B')::(nat_lit 762,x_)::(nat_lit 763,tE)::(nat_lit 766,si)::(nat_lit 767,va)::(nat_lit 768,tE)::(nat_lit 771,uC)::(nat_lit 772,ua)::(nat_lit 773,tE)::(nat_lit 776,wH)::(nat_lit 777,CC)::(nat_lit 785,tE)::(nat_lit 787,tN 1223 qy)::(nat_lit 788,tE)::(nat_lit 790,ve)::(nat_lit 791,AI)::(nat_lit 792,tE)::(nat_lit 794,tN 1231 Yl)::(nat_lit 795,tE)::(nat_lit 797,AF)::(nat_lit 798,AZ)::(nat_lit 799,tE)::(nat_lit 801,tN 1239 qy)::(nat_lit 802,tE)::(nat_lit 804,B3)::(nat_lit 805,An)::(nat_lit 806,tE)::(nat_lit 809,AN)::(nat_lit 810,t8)::(nat_lit 811,tE)::(nat_lit 814,AC)::(nat_lit 815,y')::(nat_lit 816,tE)::(nat_lit 818,sr)::(nat_lit 819,tE)::(nat_lit 821,sL)::(nat_lit 822,sC)::(nat_lit 823,tE)::(nat_lit 826,cV "_law_within" 1266 530 5 3 823 1269)::(nat_lit 827,fV "_law_within" 117 qF 826)::(nat_lit 828,tE)::(nat_lit 831,cV "law" 1272 545 1 3 828 1275)::(nat_lit 832,fV "law" 118 qF 831)::([]:List (Nat×Obj)))
abbrev asH:List Nat:=(KH {strHash:=λ_=>0,shareClass:=λ_=>0,mergeTok:=id,idOf:=λ_=>0,idOfShared:=λ_ _=>0,followText:=λ_=>true,idOfImm:=λ_=>0}).map (·.1)
def KHT(P:Params):Frag:=KH P++[(nat_lit 423,fE)]
abbrev lp:List Nat:=asH++[423]
noncomputable def qv:Program:=view p [0,2,3,4,5,6,7,8,10,11,13,14,15,16,17,18,19,20,21,23,24,25,26,28,29,30,31,32,34,35,36,37,38,39,40,41,42,43,44,46,47,48,49,50,51,52,54,55,56,58,59,60,61,63,64,65,66,67,68,70,71,72,73,74,76,77,79,80,81,82,83,84,85,86,87,88,90,91,92,93,94,96,97,98,99,100,101,102,103,104,105,106,107,108,109,110,111,112,113,114,115,116,117,118]
abbrev R:RowW:=PySem.Challenge.rw_chancehall_k56_whole_bounds.row.toRowW
def Xt(s:Shared):Bool:=xlAt qv [] s&&recOk R.records s
def e:Pos:=⟨545,0,562,15⟩
set_option maxHeartbeats 0
def GV:looksOpen PySem.Challenge.rw_chancehall_k56_whole_bounds.row.prog=true:=by kernel_rfl
def wsd:PySem.Challenge.rw_chancehall_k56_whole_bounds.wellSaid=true:=by
 unfold OpenLaw.wellSaid OpenRow.wellSaid OpenRow.partSaid;rw[GV]
 kernel_rfl
def asK:∀P,lp=(KHT P).map (·.1):=λ_=>by kernel_rfl
def pre(w:World):(λos=>topGo treeTable p w 11 eH 12 (S0 w os) (topStub p))=λos=>some (Sa w os,⟨denote treeTable (cE p),cE p,z,B⟩):=by
 rw[Fast.te15667345088766844465,Fast.te14364793385576792824,Fast.te11892475500146522536];kernel_rfl
def block(w:World):(λos=>segRun treeTable p w 11 eH 1 1 (Sa w os) (blockOf (behindTheImports p) (env p) (cE p) z B))=λos=>some (.next,(Sb w os).abs,cE p,z):=by
 rw[Fast.te14374325043358763698,Fast.te14364793385576792824];kernel_rfl
def ML(w:World):(λos=>segRunT treeTable p w 11 eH 1 30000 (Sb w os) (piecesOf ((behindTheImports p).take 117) (env p) (cE p) z B))=λos=>some (.next,S1 w os,cE p,e1):=by
 rw[Fast.te10110043849684766642,Fast.te14364793385576792824];kernel_rfl
def comb{R S A B C X Y Z:Type _}{o:Option R}{f:R->A}{g:R->B}{k:R->C}{h:R->Option S}{t:S->X}{q:S->Y}{p:S->Z}{a:A}{b:B}{c:C}{x:X}{y:Y}{z:Z}(e:(o.map λr=>(f r,g r,k r,(h r).map t))=some (a,b,c,some x))(n:(o.map λr=>(f r,g r,k r,(h r).map q))=some (a,b,c,some y))(m:(o.map λr=>(f r,g r,k r,(h r).map p))=some (a,b,c,some z)):(o.map λr=>(f r,g r,k r,(h r).map λs=>(t s,q s,p s)))=some (a,b,c,some (x,y,z)):=by
 cases o with
 |none=>cases e
 |some r =>
  simp only[Option.map_some,Option.some.injEq,Prod.mk.injEq]at e n m ⊢;obtain⟨w,v,u,d⟩:=e;obtain⟨_,_,_,j⟩:=n;obtain⟨_,_,_,i⟩:=m;cases l:h r with
  |none=>rw[l]at d;cases d
  |some s =>
   rw[l]at d j i;refine⟨w,v,u,?_⟩;simp only[Option.map_some,Option.some.injEq]at d j i ⊢;rw[d,j,i]
def Ki{R S A B C X Y:Type _}{o:Option R}{f:R->A}{g:R->B}{k:R->C}{h:R->Option S}{n:S->X}{m:S->Y}{a:A}{b:B}{c:C}{x:X}{y:Y}(e:(o.map λr=>(f r,g r,k r,(h r).map n))=some (a,b,c,some x))(l:(o.map λr=>(f r,g r,k r,(h r).map m))=some (a,b,c,some y)):(o.map λr=>(f r,g r,k r,(h r).map λs=>(n s,m s)))=some (a,b,c,some (x,y)):=by
 cases o with
 |none=>cases e
 |some r =>
  simp only[Option.map_some,Option.some.injEq,Prod.mk.injEq]at e l ⊢;obtain⟨t,q,p,d⟩:=e;obtain⟨_,_,_,i⟩:=l;cases j:h r with
  |none=>rw[j]at d;cases d
  |some s =>
   rw[j]at d i;refine⟨t,q,p,?_⟩;simp only[Option.map_some,Option.some.injEq]at d i ⊢;rw[d,i]
noncomputable def sR{a:Type}(w:World)(os:OsState)(f:Shared->a):=(segRunT treeTable p w 11 eH 1 50000 (S1 w os) (piecesOf ((behindTheImports p).drop 117) (env p) (cE p) e1 B)).map λr=>(r.1,r.2.2.1,r.2.2.2,(topRun treeTable p w 11 eH 2 r.2.1.abs ⟨doneF .next,cE p,e,B⟩).map f)
def F9(w:World):(λos=>sR w os λs=>(openSeen qv [] (importedModules p.main.body) Xt true s).1)=λ_=>some (.next,cE p,e,some ((openGood qv []).1)):=by
 unfold sR;rw[Fast.te10110043849684766642,Fast.te14364793385576792824,Fast.te14082659384304107361,Fast.te4187177175401517315,Fast.te5923862056798008813];kernel_rfl
def F8(w:World):(λos=>sR w os λs=>(openSeen qv [] (importedModules p.main.body) Xt true s).2)=λ_=>some (.next,cE p,e,some ((openGood qv []).2)):=by
 unfold sR;rw[Fast.te10110043849684766642,Fast.te14364793385576792824,Fast.te14082659384304107361];kernel_rfl
def Hd(w:World):(λos=>sR w os λs=>openSeen qv [] (importedModules p.main.body) Xt true s)=λ_=>some (.next,cE p,e,some (openGood qv [])):=funext λos=>Ki (congrFun (F9 w) os) (congrFun (F8 w) os)
def HA(w:World):(λos=>sR w os λs=>staticsOk (importedModules p.main.body) (boot_heap w.params) s.heap&&namesBound p s.heap&&gensDone s&&laidKept (boot_heap w.params) s.heap)=λ_=>some (.next,cE p,e,some (true)):=by
 unfold sR;rw[Fast.te10110043849684766642,Fast.te14364793385576792824,Fast.te14082659384304107361];kernel_rfl
def HR(w:World):(λos=>sR w os λs=>lp.map s.heap.get?)=λ_=>some (.next,cE p,e,some ((KHT w.params).map λp=>some p.2)):=by
 unfold sR;rw[Fast.te10110043849684766642,Fast.te14364793385576792824,Fast.te14082659384304107361];kernel_rfl
def big(w:World):(λos=>sR w os λs=>(staticsOk (importedModules p.main.body) (boot_heap w.params) s.heap&&namesBound p s.heap&&gensDone s&&laidKept (boot_heap w.params) s.heap,openSeen qv [] (importedModules p.main.body) Xt true s,lp.map s.heap.get?))=λ_=>some (.next,cE p,e,some (true,openGood qv [],(KHT w.params).map λp=>some p.2)):=funext λos=>comb (congrFun (HA w) os) (congrFun (Hd w) os) (congrFun (HR w) os)
def left:LeftO p qv [] Xt (λs=>lp.map s.heap.get?) (λw=>(KHT w.params).map λp=>some p.2) 200000 :=
 aaZ (boot_open rfl rfl λ_=>rfl) pre block (λw os=>qg.cutAt (congrFun (ML w) os) (qg.last (congrFun (big w) os))) rfl
def hX(s:Shared)(h:Xt s=true):XL qv [] (s.heap.nsMap mainGlobals) s.heap:=xl_of s (Bool.and_eq_true_iff.mp h).1
def hR(s:Shared)(h:Xt s=true):RecFacts R.records s.heap:=recFacts_of (Bool.and_eq_true_iff.mp h).2
end
end H56
noncomputable section
abbrev zS:=List (Option Nat)
abbrev zI:=List (Nat×Rat)
abbrev xz:=List Rat
abbrev xm:=List Int
abbrev xo:=Option Int
abbrev xC:=Option Nat
abbrev xE:=List Nat
abbrev wx:=List Bool
abbrev wv:=List xz
def wf{p:Prop}(h:p:=by decide):p:=h
def wp{p:Prop}(h:p:=by lia):p:=h
def wr{p:Prop}(h:p:=by simp):p:=h
abbrev PySem.Shared.zs(s:PySem.Shared):=s.heap.objs.size
open List (range length_cons map_cons append_nil replicate map_nil replicate_succ flatten_cons foldl_cons length_singleton drop_zero lookup_cons all_cons all_map any_cons any_map getElem_zip zip_cons_cons cons_append length_zipIdx zipWith_cons_cons zipWith map_singleton range_succ map_zipWith map_set getElem_set map_take take_nil range' all_eq_true map_const' sum_cons)
open Bool (and_eq_true)
open Nat (succ_le_succ min_le_left add_mul pow_zero pow_succ pow_pos mod_lt sub_zero gcd_comm dvd_mul_left)
open Option (getD_none getD_some)
open Int (fdiv natAbs_neg)
open Rat (intCast_zero divInt div_def lt_iff le_iff sub_eq_add_neg)
namespace L2
open PySem PySem.Spec PyProof.Rows
abbrev wq:=List Keyword
abbrev xI:=Array Value
abbrev xN:=List (Str×NameKind)
abbrev xS:=List Stmt
abbrev xa:=List PyData
abbrev xt:=List Env
abbrev xh:=List (Str×Value)
abbrev xf:=List (Str×Rat)
abbrev xb:=List (Str×Addr)
abbrev xw:=List Expr
abbrev bX:=Sum Int Str
abbrev xi:=List bX
def Ft:bX->Value->Bool
 |.inl k,v=>Value.isInt k v
 |.inr x,v=>Value.isStrOf x v
def KG(w:World):bX->Int
 |.inl k=>hashInt k
 |.inr x=>hashStr w x
def gF:∀{k:bX}{v:Value},Ft k v->(∃i t,k=Sum.inl i/\v=Value.int i t)\/(∃x t,k=Sum.inr x/\v=Value.str x t)
 |.inl i,v,h=>by
  obtain⟨t,e⟩:=Value.isInt_shape (k:=i) (v:=v) h;exact .inl ⟨i,t,rfl,e⟩
 |.inr x,v,h=>by
  obtain⟨t,e⟩:=Value.isStrOf_shape (x:=x) (v:=v) h;exact .inr ⟨x,t,rfl,e⟩
def abq(i:Int)(t:Tok):Ft (.inl i) (.int i t):=by simp[Ft,Value.isInt]
def abI(x:Str)(t:Tok):Ft (.inr x) (.str x t):=by simp[Ft,Value.isStrOf]
def OF(a b:Int):decide ((Sum.inl a:bX)=Sum.inl b)=(a==b):=by
 by_cases e:a=b
 .subst e;simp
 .have h:¬(Sum.inl a:bX)=Sum.inl b:=λq=>e (Sum.inl.inj q);rw[Zp h];exact(beq_eq_false_iff_ne.mpr e).symm
def Su(a b:Str):decide ((Sum.inr a:bX)=Sum.inr b)=decide (a=b):=by
 by_cases e:a=b
 .subst e;simp
 .have h:¬(Sum.inr a:bX)=Sum.inr b:=λq=>e (Sum.inr.inj q);rw[Zp h,Zp e]
def OY(a:Int)(b:Str):decide ((Sum.inl a:bX)=Sum.inr b)=false:=Zp (λq=>nomatch q)
def OK(a:Str)(b:Int):decide ((Sum.inr a:bX)=Sum.inl b)=false:=Zp (λq=>nomatch q)
def j_(c:Program)(w:World):PySem.KeyKind c w bX where
 is:=Ft
 hash:=KG w
 inj:=λv a b m g=>by
  rcases gF m with⟨i,t,rfl,rfl⟩|⟨x,t,rfl,rfl⟩
  .rcases gF g with⟨j,u,rfl,e⟩|⟨y,u,rfl,e⟩
   .injection e with d _;rw[d]
   .exact nomatch e
  .rcases gF g with⟨j,u,rfl,e⟩|⟨y,u,rfl,e⟩
   .exact nomatch e
   .injection e with d _;rw[d]
 byValue:=λk v h=>by
  rcases gF h with⟨i,t,rfl,rfl⟩|⟨x,t,rfl,rfl⟩<;>rfl
 pyHash:=λf h=>by
  rcases gF f with⟨i,t,rfl,rfl⟩|⟨x,t,rfl,rfl⟩
  .exact wpAny_pyHash_int h
  .exact wpAny_pyHash_str h
 eqBool:=λl f h=>by
  rcases gF l with⟨i,t,rfl,rfl⟩|⟨x,t,rfl,rfl⟩
  .rcases gF f with⟨j,u,rfl,rfl⟩|⟨y,u,rfl,rfl⟩
   .rw[OF]at h;exact wpAny_eqBool_int h
   .rw[OY]at h;exact SeqAt.EqAt.int_str i t y u _ _ _ _ h
  .rcases gF f with⟨j,u,rfl,rfl⟩|⟨y,u,rfl,rfl⟩
   .rw[OK]at h;exact SeqAt.EqAt.str_int x t j u _ _ _ _ h
   .rw[Su]at h;exact wpAny_eqBool_str h
 «strs»:=λk x t v h=>by
  rcases gF h with⟨i,u,rfl,e⟩|⟨y,u,rfl,e⟩
  .exact nomatch e
  .injection e with d _;subst d;cases v<;>rfl
def V9(a:Program)(w:World)(i:Int)(t:Tok):(j_ a w).is (.inl i) (.int i t):=abq i t
def V6(a:Program)(w:World)(x:Str)(t:Tok):(j_ a w).is (.inr x) (.str x t):=abI x t
inductive V where
 |non|bl (b:Bool)|int (i:Int)|str (x:Str)|byt (b:Array UInt8)|flt (b:UInt64)|ref (a:Addr)|ty (n:String)
 deriving DecidableEq
abbrev xD:=Option V
abbrev xF:=List (bX×V)
abbrev xn:=List (Str×V)
abbrev Ζ:=List V
def z4:V->Value->Prop
 |.non,u=>u=Value.none
 |.bl b,u=>u=Value.bool b
 |.int i,u=>∃t,u=Value.int i t
 |.str x,u=>∃t,u=Value.str x t
 |.byt b,u=>∃t,u=Value.bytes b t
 |.flt b,u=>∃t,u=Value.float b t
 |.ref a,u=>u=Value.ref a
 |.ty n,u=>u=Value.type n
abbrev z5:Ζ->Θ->Prop:=Paired z4
def z5.length{J:Ζ}{a:Θ}(r:z5 J a):J.length=a.length:=Paired.length r
theorem z5.get:∀{J:Ζ}{a:Θ}{i:Nat}{x:V},z5 J a->J[i]?=some x->∃u,a[i]?=some u/\z4 x u
 |_,_,_,_,.nil,e=>by simp at e
 |_,_,0,_,.cons r _,e=>by simp at e;subst e;exact⟨_,rfl,r⟩
 |_,_,i+1,x,.cons _ t,e=>by
  obtain⟨u,c,b⟩:=z5.get (i:=i) (x:=x) t (by simpa using e);exact⟨u,by simpa using c,b⟩
theorem z5.set{x:V}{u:Value}(r:z4 x u):∀{J:Ζ}{a:Θ}(i:Nat),z5 J a->z5 (J.set i x) (a.set i u)
 |_,_,_,.nil=>.nil
 |_,_,0,.cons _ t=>.cons r t
 |_,_,i+1,.cons q t=>.cons q (z5.set r i t)
theorem z5.append:∀{J a:Ζ}{c b:Θ},z5 J c->z5 a b->z5 (J++a) (c++b)
 |_,_,_,_,.nil,s=>s
 |_,_,_,_,.cons r t,s=>.cons r (z5.append t s)
theorem z5.take:∀{J:Ζ}{a:Θ}(n:Nat),z5 J a->z5 (J.take n) (a.take n)
 |_,_,0,_=>.nil
 |_,_,_+1,.nil=>.nil
 |_,_,n+1,.cons r t=>.cons r (z5.take n t)
theorem z5.drop:∀{J:Ζ}{a:Θ}(n:Nat),z5 J a->z5 (J.drop n) (a.drop n)
 |_,_,0,r=>r
 |_,_,_+1,.nil=>.nil
 |_,_,n+1,.cons _ t=>z5.drop n t
def Ci:xD->Ω->Prop
 |some v,some u=>z4 v u
 |none,none=>True
 |_,_=>False
def KV{a:Type} : List (a×V)->List (a×Value)->Prop:=Paired λ(p:a×V)(q:a×Value)=>p.1=q.1/\z4 p.2 q.2
def kV:bX->V
 |.inl i=>.int i
 |.inr x=>.str x
inductive HO where
  |lst (J:Ζ)
  |tup (J:Ζ)
  |dK (kvs:xF)
  |set (S:Int->Bool) (n:Nat)
  |ins (C dx:Addr) (fs:xn)
  |own (x:Addr)
  |xd (fs:xn)
  |met (f x:Addr)
  |rng (lo hi:Int)
  |frz (o:Obj) (u:HO)
  |tbl (ps:xI)
  |ext (φ:Heap->Prop)
abbrev Hp:=Addr->Option HO
def upd(H:Hp)(a:Addr)(o:HO):Hp:=λb=>if b=a then some o else H b
variable{H Y:Hp}{a b x e:Addr}{o o':HO}{P:Program}{w:World}{h h':Heap}
def cF : upd H a o a=some o:=by unfold upd;rw[ZY rfl]
def cA(h:b≠a):upd H a o b=H b:=by unfold upd;rw[ZZ h]
def pu{u:HO}(h:H a=some o)(h':H b=some u)(d:o≠u):a≠b:=by
 intro e;subst e;rw[h]at h';exact d (Option.some.inj h')
def jP(h:H a=some o)(h':H b=none):a≠b:=by
 intro e;subst e;rw[h]at h';cases h'
section
variable(P:Program)(w:World)
def gM(H:Hp)(h:Heap)(a:Addr):HO->Prop
 |.lst J=>J.length<=sizeLine/\∃(b:Θ)(n:Nat),z5 J b/\h.get? a=some { cls:=.type "list",data:=.seq b.toArray n }
 |.tup J=>J.length<=sizeLine/\∃b:Θ,z5 J b/\IsTup h a b.toArray
 |.dK d=>d.length<=sizeLine/\(a==sysModules)=false/\∃j,KV d j/\h.DictOf (j_ P w) a j
 |.set S n=>h.SetOf (intKind P w) a S n
 |.ins C g e=>H g=some (.own a)/\e.length<=1000/\g≠a/\h.get? a=some (instObj C g) /\
   ∃c,h.Ns1 g c/\(∀f,Ci (e.lookup f) (c f))/\PySem.Within c (e.map (·.1))
 |.own _=>∃o,h.get? a=some o
 |.xd e=>∃c,h.Ns1 a c/\∀f,Ci (e.lookup f) (c f)
 |.rng lo p=>∃t u v,h.get? a=some { cls:=.type "range",data:=.fields #[.int lo t,.int p u,.int 1 v] }
 |.frz o u=>h.get? a=some o/\gM H h a u
 |.tbl m=>h.get? a=some { cls:=.none,data:=.fields m }
 |.met f x=>h.get? a=some (methodObj (.ref f) (.ref x))
 |.ext i=>i h/\(∃o,h.get? a=some o)/\∀l k:Heap,i l->(∀o,l.get? a=some o->k.get? a=some o)->i k
def HOk(H:Hp)(h:Heap):Prop:=∀a o,H a=some o->gM P w H h a o
end
def gM.lt(x:gM P w H h a o):a<h.objs.size:=by
 cases o with
 |lst J=>obtain⟨_,_,_,_,e⟩:=x;exact aK e
 |tup J=>obtain⟨_,_,_,p⟩:=x;exact p.lt
 |dK b=>obtain⟨_,_,_,_,o,_,_,e,_⟩:=x;exact aK e
 |set S n=>obtain⟨o,_,_,_,e,_⟩:=x;exact aK e
 |ins C k c=>obtain⟨_,_,_,e,_⟩:=x;exact aK e
 |own y=>obtain⟨_,e⟩:=x;exact aK e
 |xd c=>obtain⟨_,⟨_,_,_,e,_⟩,_⟩:=x;exact aK e
 |rng lo j=>obtain⟨_,_,_,e⟩:=x;exact aK e
 |frz i u=>obtain⟨e,_⟩:=x;exact aK e
 |tbl g=>exact aK (show h.get? a=some _ from x)
 |met f y=>exact aK (show h.get? a=some _ from x)
 |ext d=>obtain⟨_,⟨_,e⟩,_⟩:=x;exact aK e
def gM.stay(x:gM P w H h a o)(k:∀b u,(b=a\/H b=some (.own a))->h.get? b=some u->h'.get? b=some u)
 (I:∀b,H b=some (.own a)->Y b=some (.own a))(N:∀b J,H b=some (.tup J)->Y b=some (.tup J)):gM P w Y h' a o:=by
 induction o with
 |lst J=>obtain⟨z,i,n,r,e⟩:=x;exact⟨z,i,n,r,k _ _ (.inl rfl) e⟩
 |tup J=>obtain⟨z,i,r,g,e,c⟩:=x;exact⟨z,i,r,g,k _ _ (.inl rfl) e,c⟩
 |dK F=>obtain⟨z,y,D,r,g,j,l,e,c⟩:=x;exact⟨z,y,D,r,g,j,l,k _ _ (.inl rfl) e,c⟩
 |set S n=>obtain⟨g,j,l,t,e,c⟩:=x;exact⟨g,j,l,t,k _ _ (.inl rfl) e,c⟩
 |ins C Q K =>
  obtain⟨d,z,E,e,s,⟨m,j,l,L,c⟩,r⟩:=x;exact⟨I _ d,z,E,k _ _ (.inl rfl) e,s,⟨m,j,l,k _ _ (.inr d) L,c⟩,r⟩
 |own y=>obtain⟨g,e⟩:=x;exact⟨g,k _ _ (.inl rfl) e⟩
 |xd K=>obtain⟨s,⟨m,j,l,e,c⟩,r⟩:=x;exact⟨s,⟨m,j,l,k _ _ (.inl rfl) e,c⟩,r⟩
 |rng lo O=>obtain⟨t,u,v,e⟩:=x;exact⟨t,u,v,k _ _ (.inl rfl) e⟩
 |frz g u G=>obtain⟨e,q⟩:=x;exact⟨k _ _ (.inl rfl) e,G q⟩
 |tbl B =>
  have e:h.get? a=some { cls:=.none,data:=.fields B }:=x;show h'.get? a=some { cls:=.none,data:=.fields B };exact k a _ (.inl rfl) e
 |met f y =>
  have e:h.get? a=some (methodObj (.ref f) (.ref y)):=x;show h'.get? a=some (methodObj (.ref f) (.ref y));exact k a _ (.inl rfl) e
 |ext M=>obtain⟨p,⟨o,e⟩,A⟩:=x;exact⟨A _ _ p λo q=>k _ _ (.inl rfl) q,⟨o,k _ _ (.inl rfl) e⟩,A⟩
def HOk.lt(x:HOk P w H h)(e:H a=some o):a<h.objs.size:=(x a o e).lt
def HOk.fresh(x:HOk P w H h)(e:h.objs.size<=a):H a=none:=by
 cases q:H a with
 |none=>rfl
 |some u=>exact absurd (aR (x.lt q) e) (Wp _)
def HOk.kept(x:HOk P w H h)(k:∀b u,h.get? b=some u->h'.get? b=some u):HOk P w H h':=λa o e =>
 (x a o e).stay (λb u _ q=>k b u q) (λ_ q=>q) λ_ _ q=>q
def HOk.laid(x:HOk P w H h)(k:∀b u,h.get? b=some u->h'.get? b=some u)(i:h.objs.size<=a)(d:gM P w (upd H a o) h' a o):HOk P w (upd H a o) h':=λb u e=>by
 have f:=x.fresh i;by_cases g:b=a
 .subst g;rw[cF]at e;cases e;exact d
 .rw[cA g]at e;exact(x b u e).stay (λc v _ q=>k c v q) (λc q=>by rw[cA (jP q f)];exact q) λc J q=>by rw[cA (jP q f)];exact q
def Rd(H:Hp)(a:Addr)(u:HO):Prop:=H a=some u\/∃o,H a=some (.frz o u)
def Rd.of{u:HO}(h:H a=some u):Rd H a u:=.inl h
def Rd.ok{u:HO}(r:Rd H a u)(x:HOk P w H h):gM P w H h a u:=by
 rcases r with r|⟨o,r⟩
 .exact x a u r
 .obtain⟨_,q⟩:=x a _ r;exact q
def kz:Option HO->Prop
 |some (.lst _)=>True
 |some (.dK _)=>True
 |some (.set _ _)=>True
 |some (.ins _ _ _)=>True
 |some (.ext _)=>True
 |_=>False
def HOk.write(m:HOk P w H h)(d:kz (H x))(l:e=x\/H e=some (.own x))(k:∀b u,b≠e->h.get? b=some u->h'.get? b=some u)(o:∃u,h'.get? e=some u)
 (g:gM P w (upd H x o') h' x o'):HOk P w (upd H x o') h':=λb u q=>by
 have j:∀c y,H c=some (.own y)->c≠x:=λc y r z=>by subst z;rw[r]at d;exact d
 have n:∀c J,H c=some (.tup J)->c≠x:=λc J r z=>by subst z;rw[r]at d;exact d
 by_cases f:b=x
 .subst f;rw[cF]at q;cases q;exact g
 .rw[cA f]at q;by_cases a:b=e
  .have i:H b=some (.own x):=by
    rcases l with z|z
    .exact absurd (a.trans z) f
    .rw[a];exact z
   rw[q]at i;cases i;obtain⟨v,p⟩:=o;exact⟨v,by rwa[a]⟩
  .refine(m b u q).stay (λc v hc r=>k c v ?_ r) (λc r=>by rwa[cA (j c b r)]) λc J r=>by rwa[cA (n c J r)]
   rcases hc with rfl|hc
   .exact a
   .rintro rfl;rcases l with z|z
    .exact j c b hc z
    .rw[hc]at z;cases z;exact f rfl
structure Un(fs ex:Ψ)(H Y:Hp)(h h':Heap):Prop where
 keep:∀b o,h.get? b=some o->H b=none->b∉fs->b∉ex->h'.get? b=some o
 slot:∀b o,h.get? b=some o->H b=none->b∈fs->b∉ex->∃sl,h'.get? b=some { o with slots:=sl }
 free:∀b o,h.get? b=some o->H b=none->b∉ex->Y b=none
 there:∀b o,h.get? b=some o->b∉ex->∃o',h'.get? b=some o'
 tups:∀b J,H b=some (.tup J)->Y b=some (.tup J)
 frzs:∀b o u,H b=some (.frz o u)->Y b=some (.frz o u)
 tbls:∀b ps,H b=some (.tbl ps)->∃more,Y b=some (.tbl (ps++more))
section
variable{fs fs' ex ex':Ψ}{H Z H2:Hp}{h h1 h2 h':Heap}{a x e:Addr}{o:HO}
def Un.any(u:Un fs ex H Z h h1){a:Obj}(q:h.get? b=some a)(n:H b=none)(d:b∉ex):∃f,h1.get? b=some { a with slots:=f }:=by
 by_cases e:b∈fs
 .exact u.slot b a q n e d
 .exact⟨a.slots,u.keep b a q n e d⟩
def Un.kept(k:∀b u,h.get? b=some u->h'.get? b=some u):Un fs ex H H h h' :=
 ⟨λb a q _ _ _=>k b a q,λb a q _ _ _=>⟨a.slots,k b a q⟩,λ_ _ _ n _=>n,λb a q _=>⟨a,k b a q⟩,λ_ _ q=>q,λ_ _ _ q=>q,λ_ c q=>⟨#[],by rw[q];simp⟩⟩
def Un.refl:Un fs ex H H h h:=Un.kept λ_ _ q=>q
def Un.laid(k:∀b u,h.get? b=some u->h'.get? b=some u)(d:h.objs.size<=a)(c:H a=none):Un fs ex H (upd H a o) h h' where
 keep:=λb u q _ _ _=>k b u q
 slot:=λb u q _ _ _=>⟨u.slots,k b u q⟩
 free:=λb u q n _=>by rwa[cA (aQ (aR (aK q) d))]
 there:=λb u q _=>⟨u,k b u q⟩
 tups:=λb J q=>by rw[cA (jP q c)];exact q
 frzs:=λb u J q=>by rw[cA (jP q c)];exact q
 tbls:=λb e q=>⟨#[],by rw[cA (jP q c),q];simp⟩
def Un.write(c:kz (H x))(l:e=x\/H e=some (.own x))(k:∀b u,b≠e->h.get? b=some u->h'.get? b=some u)(j:∃u,h'.get? e=some u):Un fs ex H (upd H x o) h h':=by
 have f:∀b,H b=none->b≠x:=λb n z=>by subst z;rw[n]at c;exact c
 have g:∀b,H b=none->b≠e:=λb n z=>by
  subst z;rcases l with r|r
  .exact f b n r
  .rw[n]at r;cases r
 have d:∀b u,H b=some u->¬kz (some u)->b≠x:=λb u q i z=>by subst z;rw[q]at c;exact i c
 refine⟨λb u q n _ _=>k b u (g b n) q,λb u q n _ _=>⟨u.slots,k b u (g b n) q⟩,λb u q n _=>by rw[cA (f b n)];exact n,λb u q _=>?_,
  λb J q=>by rw[cA (d b _ q λz=>z)];exact q,λb u J q=>by rw[cA (d b _ q λz=>z)];exact q,λb m q=>⟨#[],by rw[cA (d b _ q λz=>z),q];simp⟩⟩
 by_cases a:b=e
 .subst a;exact j
 .exact⟨u,k b u a q⟩
end
def kQ(h:Heap)(H:Hp):Ψ:=(range h.objs.size).filter λa=>(H a).isSome
def DK(h:Heap)(H:Hp):Heap:=hideAll h (kQ h H)
def PB(h:Heap)(H:Hp):(DK h H).objs.size=h.objs.size:=hideAll_size _ _
variable{o:Obj}
def Ws(e:h.get? b=some o)(n:H b=none):(DK h H).get? b=some o :=
 hideAll_get _ e λa=>by
  have q:(H b).isSome:=(List.mem_filter.mp a).2;rw[n]at q;simp at q
def Y_(e:(DK h H).get? b=some o):h.get? b=some o/\H b=none:=by
 have a:h.get? b=some o:=of_hideAll (kQ h H) e;refine⟨a,?_⟩;cases q:H b with
 |none=>rfl
 |some x =>
  have c:b∈kQ h H:=List.mem_filter.mpr ⟨List.mem_range.mpr (aK a),by simp[q]⟩;have z:(DK h H).get? b=none:=hideAll_none (kQ h H) c;rw[z]at e;cases e
def UC(g h:Heap)(L:Addr):Δ:=(range h.objs.size).filterMap λa=>if a=L\/(g.get? a).isSome=true then none else(h.get? a).map λo=>(a,o)
def rest(g h:Heap)(L d:Addr):Δ:=(UC g h L).filter λp=>decide (p.1≠d)
structure Mod(K:Frag)(mg:Str->Ω)(base:Heap):Prop where
 kin:K.In base
 glob:base.Ns mainGlobals mg
 blt:∃mb,base.Ns builtinsNs mb/\∀x:Str,x≠"__name__"->mb x=bootBuiltins x
 nolimit:base.NoLimit
structure Cx where
 prog:Program
 w:World
 K:Frag
 mg:Str->Ω
 base:Heap
 A:Around
 N:Φ
 s₀:Shared
 H₀:Hp
 env:Env
 outer:xt
 stack:xt
 ex:Ψ
 fn:Str->Bool
 calm:Bool
 pn:Δ
 xe:Ε
def ci(l:xt):Ψ:=l.filterMap (·.frame)
abbrev Cx.fs(X:Cx):Ψ:=ci X.outer
def kq(a:Scope)(x:Str):Prop:=a.names.lookup x=some .local\/a.names.lookup x=some .cell\/a.names.lookup x=some .free
def fA(a:Scope)(x:Str):Prop:=a.names.lookup x=some .local\/a.names.lookup x=some .cell
def Look(env:Env)(h:Heap)(m:Str->Ω)(x:Str)(u:Value):Prop :=
 (env.kindOf x=some .local/\m x=some u)\/((env.kindOf x=some .cell\/env.kindOf x=some .free)/\∃c,env.cells.lookup x=some c/\h.IsCell c (some u))
structure Cx.Ok(X:Cx):Prop where
 mod:Mod X.K X.mg X.base
 kind:X.env.scope.kind=.function
 glob:X.env.globals=mainGlobals
 blt:X.env.builtins=builtinsNs
 above:X.s₀.zs<=X.env.locals
 inj:∀x y c,X.env.cells.lookup x=some c->X.env.cells.lookup y=some c->x=y
 has:∀x,(X.env.kindOf x=some .cell\/X.env.kindOf x=some .free)->∃c,X.env.cells.lookup x=some c
 cab:∀x c,X.fn x->X.env.cells.lookup x=some c->X.s₀.zs<=c
 hd:X.calm->X.A.handled=none
 frames:X.A.frames=some X.stack
 stk:X.stack=X.outer\/(X.stack=X.env::X.outer/\X.env.frame=some X.env.locals)
 exf:∀b∈X.ex,b≠X.env.locals/\∀x c,X.env.cells.lookup x=some c->c≠b
 bs:∀b o,X.base.get? b=some o->X.s₀.heap.get? b=some o/\X.H₀ b=none
 bsz:X.base.objs.size<=X.s₀.zs
 noex:∀b o,X.base.get? b=some o->b∉X.ex
 exfs:∀b∈X.ex,b∉X.fs
 funs:X.s₀.heap.FunFrames X.base X.outer
 frf:∀b∈X.fs,X.H₀ b=none
structure Inv(X:Cx)(U:Δ)(I:List xD)(H:Hp)(s:Shared):Prop where
 ok:X.Ok
 os:s.os=X.s₀.os
 bare:AllBare s.gens
 base:Un X.fs X.ex X.H₀ H X.s₀.heap s.heap
 loc:∃m,s.heap.Ns X.env.locals m/\∀(i:Nat)(x:Str)(v:V),X.N[i]?=some x->I[i]?=some (some v)->kq X.env.scope x->∃u,z4 v u/\Look X.env s.heap m x u
 cell:∀x c,X.env.cells.lookup x=some c->∃v,s.heap.IsCell c v
 free:H X.env.locals=none
 freeC:∀x c,X.env.cells.lookup x=some c->H c=none
 pin:∀p∈X.pn++U,s.heap.get? p.1=some p.2/\H p.1=none/\p.1≠X.env.locals/\p.1∉X.fs/\∀v,p.2.data≠.cell v
 hok:HOk X.prog X.w H s.heap
 len:I.length=X.N.length
variable{X:Cx}{U:Δ}{I:List xD}{s s':Shared}{g':Array GenState}{t' i:Nat}{ch:Ψ}{x:Str}{u:Value}{M:Model}{A:Around}{E:Ε}{v:V}{Q:Unit->Shared->Prop}{e:Expr}
def Cx.Ok.nofr(a:X.Ok)(e:X.base.get? b=some o):b∉X.fs:=λc=>by
 have:=(a.funs.mem c).1;rw[e]at this;cases this
def Inv.bs(a:Inv X U I H s):∀b o,X.base.get? b=some o->s.heap.get? b=some o/\H b=none:=λb o e =>
 ⟨a.base.keep b o (a.ok.bs b o e).1 (a.ok.bs b o e).2 (a.ok.nofr e) (a.ok.noex b o e),a.base.free b o (a.ok.bs b o e).1 (a.ok.bs b o e).2 (a.ok.noex b o e)⟩
def Inv.bk(a:Inv X U I H s):∀b o,X.base.get? b=some o->s.heap.get? b=some o:=λb o e=>(a.bs b o e).1
def Inv.mod(a:Inv X U I H s):Mod X.K X.mg X.base:=a.ok.mod
def Inv.kIn(a:Inv X U I H s):X.K.In s.heap:=a.ok.mod.kin.keeps a.bk
def Inv.fr(a:Inv X U I H s):∃m,Fr X.base X.env.locals s.heap m :=
 let⟨m,b,_⟩:=a.loc
 ⟨m,b,a.bk,aL a.ok.bsz a.ok.above⟩
def Inv.lt(a:Inv X U I H s):X.env.locals<s.zs:=by obtain⟨_,b,_⟩:=a.loc;exact b.lt
def Inv.sz(a:Inv X U I H s):X.s₀.zs<=s.zs:=aL a.ok.above (Y2 a.lt)
def Inv.nofs(b:Inv X U I H s)(h:s.zs<=a):a∉X.fs:=λd=>by
 obtain⟨_,o,c,_⟩:=b.ok.funs.mem d;exact absurd (aR (aK c) (aL b.sz h)) (Wp _)
def Inv.cne(a:Inv X U I H s):∀x c,X.env.cells.lookup x=some c->c≠X.env.locals:=λx c e z=>by
 obtain⟨v,o,b,hd⟩:=a.cell x c e;obtain⟨m,⟨o',g,h,d,f,_⟩,_⟩:=a.loc;rw[z,d]at b;cases b;rw[f]at hd;cases hd
def Inv.funs(a:Inv X U I H s):s.heap.FunFrames X.base X.outer:=by
 have all:∀(l:xt),(∀b∈ci l,b∈X.fs)->X.s₀.heap.FunFrames X.base l->s.heap.FunFrames X.base l:=by
  intro l
  induction l with
  |nil=>intro _ _;trivial
  |cons env r h =>
   intro g m;obtain⟨n,⟨L,o,c,k,j,hd⟩,i⟩:=m;have f:L∈X.fs:=g L (by unfold ci;rw[j',c];exact aO);obtain⟨p,e⟩:=a.base.slot L o j (a.ok.frf L f) f λz=>a.ok.exfs L z f;exact⟨n,⟨L,_,c,k,e,hd⟩,h (λb d=>g b (by unfold ci;rw[j',c];exact aJ _ d)) i⟩
 exact all X.outer (λ_ d=>d) a.ok.funs
def Inv.stack(a:Inv X U I H s):s.heap.FunFrames X.base X.stack:=by
 rcases a.ok.stk with e|⟨e,c⟩
 .rw[e];exact a.funs
 .rw[e];obtain⟨m,b,_⟩:=a.loc;refine .cons (by rw[a.ok.kind];decide) c b ?_ a.funs;exact Heap.get?_none_of_le (aL a.ok.bsz a.ok.above)
def Inv.stkSub(a:Inv X U I H s):∀b∈ci X.stack,b∈X.env.locals::X.fs:=λb c=>by
 rcases a.ok.stk with e|⟨e,d⟩
 .rw[e]at c;exact aJ _ c
 .rw[e]at c;unfold ci at c;rw[j',d]at c;exact c
def Inv.stkFree(a:Inv X U I H s):∀b∈ci X.stack,H b=none:=λb c=>by
 rcases YU.mp (a.stkSub b c)with e|c
 .rw[e];exact a.free
 .obtain⟨_,o,d,_⟩:=a.ok.funs.mem c;exact a.base.free b o d (a.ok.frf b c) λz=>a.ok.exfs b z c
def Inv.step{d':Drawn}(a:Inv X U I H s)
 (F:∀b∈ch,(b∈X.ex\/X.s₀.zs<=b)/\b≠X.env.locals/\(∀x c,X.env.cells.lookup x=some c->c≠b)/\∀p∈X.pn++U,p.1≠b)
 (g:∀b o,b≠X.env.locals->b∉X.fs->b∉ch->s.heap.get? b=some o->H b=none->h'.get? b=some o)
 (slot:∀b o,b≠X.env.locals->b∈X.fs->b∉ch->s.heap.get? b=some o->H b=none->∃P,h'.get? b=some { o with slots:=P })(free:∀b o,b∉ch->s.heap.get? b=some o->H b=none->Y b=none)
 (j:∀b o,b∉ch->s.heap.get? b=some o->∃o',h'.get? b=some o')
 (A:∀b J,H b=some (.tup J)->Y b=some (.tup J))(G:∀b o u,H b=some (.frz o u)->Y b=some (.frz o u))(B:∀b L,H b=some (.tbl L)->∃D,Y b=some (.tbl (L++D)))
 (Z:∀m,s.heap.Ns X.env.locals m->h'.Ns X.env.locals m)(hok:HOk X.prog X.w Y h')(hg:AllBare g') :
  Inv X U I Y { s with heap:=h',gens:=g',drawn:=d',toks:=t' }:=by
 have C:∀b o,X.s₀.heap.get? b=some o->b≠X.env.locals:=λb o e=>aQ (aR (aK e) a.ok.above);have M:∀b o,X.s₀.heap.get? b=some o->b∉X.ex->b∉ch:=λb o e f t=>by
  rcases(F b t).1 with z|z
  .exact f z
  .exact absurd (aR (aK e) z) (Wp _)
 have S:∀x c,X.env.cells.lookup x=some c->∀v,s.heap.IsCell c v->h'.IsCell c v:=λx c e v hP=>by
  obtain⟨o,y,hd⟩:=hP;have E:c∉ch:=λz=>(F c z).2.2.1 x c e rfl;by_cases W:c∈X.fs
  .obtain⟨P,q⟩:=slot c o (a.cne x c e) W E y (a.freeC x c e);exact⟨_,q,hd⟩
  .exact⟨o,g c o (a.cne x c e) W E y (a.freeC x c e),hd⟩
 refine⟨a.ok,a.os,hg,⟨λb o e n t f=>?_,λb o e n t f=>?_,λb o e n f=>?_,λb o e f=>?_,λb J e=>A b J (a.base.tups b J e),λb o J e=>G b o J (a.base.frzs b o J e),λb L e=>?_⟩,?_,λx c e=>?_,?_,λx c e=>?_,λp T=>?_,hok,a.len⟩
 .exact g b o (C b o e) t (M b o e f) (a.base.keep b o e n t f) (a.base.free b o e n f)
 .obtain⟨P,h⟩:=a.base.slot b o e n t f;obtain⟨O,K⟩:=slot b _ (C b o e) t (M b o e f) h (a.base.free b o e n f);exact⟨O,K⟩
 .obtain⟨o',h⟩:=a.base.there b o e f;exact free b o' (M b o e f) h (a.base.free b o e n f)
 .obtain⟨o',h⟩:=a.base.there b o e f;exact j b o' (M b o e f) h
 .obtain⟨m1,h⟩:=a.base.tbls b L e;obtain⟨m2,K⟩:=B b _ h;exact⟨m1++m2,by rw[K,Array.append_assoc]⟩
 .obtain⟨m,hn,hl⟩:=a.loc;refine⟨m,Z m hn,λi x v h K e3=>?_⟩;obtain⟨u,r,l⟩:=hl i x v h K e3;refine⟨u,r,?_⟩;rcases l with l|⟨k,c,e,z⟩
  .exact .inl l
  .exact .inr ⟨k,c,e,S x c e _ z⟩
 .obtain⟨v,z⟩:=a.cell x c e;exact⟨v,S x c e v z⟩
 .obtain⟨m,⟨o,_,_,y,_⟩,_⟩:=a.loc;exact free _ o (λz=>(F _ z).2.1 rfl) y a.free
 .obtain⟨v,o,y,hd⟩:=a.cell x c e;exact free c o (λz=>(F c z).2.2.1 x c e rfl) y (a.freeC x c e)
 .obtain⟨e,n,R,Q,d⟩:=a.pin p T;have E:p.1∉ch:=λz=>(F p.1 z).2.2.2 p T rfl;exact⟨g p.1 p.2 R Q E e n,free p.1 p.2 E e n,R,Q,d⟩
def Inv.un(a:Inv X U I H s)(u:Un X.fs [] H Y s.heap h')(hok:HOk X.prog X.w Y h'):Inv X U I Y { s with heap:=h',toks:=t' }:=by
 obtain⟨m,⟨o,t,v,d,r⟩,_⟩:=id a.loc;obtain⟨p,k⟩:=u.any d a.free wr;exact a.step (g':=s.gens) (d':=s.drawn) (ch:=[]) (λ_ z=>nomatch z) (λb o _ c _ e n=>u.keep b o e n c wr) (λb o _ c _ e n=>u.slot b o e n c wr) (λb o _ e n=>u.free b o e n wr) (λb o _ e=>u.there b o e wr) u.tups u.frzs u.tbls (λq j=>by
  obtain⟨o',l,i,g,h⟩:=j;rw[d]at g;cases g;exact⟨_,l,i,k,h⟩) hok a.bare
def Inv.call{d':Drawn}(a:Inv X U I H s)(u:Un (ci X.stack) ch H Y s.heap h')(hok:HOk X.prog X.w Y h')(q:AllBare g')
 (h:∀b∈ch,(b∈X.ex\/X.s₀.zs<=b)/\b≠X.env.locals/\(∀x c,X.env.cells.lookup x=some c->c≠b)/\∀p∈X.pn++U,p.1≠b) :
  Inv X U I Y { s with heap:=h',gens:=g',drawn:=d',toks:=t' }:=by
 obtain⟨m,⟨o,B,C,f,r⟩,_⟩:=id a.loc;obtain⟨y,d⟩:=u.any f a.free λz=>(h _ z).2.1 rfl;exact a.step (ch:=ch) h (λb o d t hc e n=>u.keep b o e n (λz=>(YU.mp (a.stkSub b z)).elim d t) hc) (λb o _ _ hc e n=>u.any e n hc) (λb o hc e n=>u.free b o e n hc) (λb o hc e=>u.there b o e hc) u.tups u.frzs u.tbls (λA l=>by
  obtain⟨o',v,k,i,j⟩:=l;rw[f]at i;cases i;exact⟨_,v,k,d,j⟩) hok q
def Inv.turned{it:Addr}(a:Inv X U I H s)(k:∀b o,b≠it->s.heap.get? b=some o->h'.get? b=some o)(i:H it=none)(g:it≠X.env.locals)
 (y:it∈X.ex\/X.s₀.zs<=it)(w:∀x c,X.env.cells.lookup x=some c->c≠it)(t:∀p∈X.pn++U,p.1≠it):Inv X U I H { s with heap:=h',toks:=t' }:=by
 have d:∀b u,H b=some u->b≠it:=λb u e z=>by rw[z,i]at e;cases e
 refine a.step (g':=s.gens) (d':=s.drawn) (ch:=[it]) (λb l=>?_) (λb o _ _ hc e _=>k b o (λz=>hc (by simp[z])) e) (λb o _ _ hc e _=>⟨o.slots,k b o (λz=>hc (by simp[z])) e⟩) (λ_ _ _ _ n=>n)
  (λb o hc e=>⟨o,k b o (λz=>hc (by simp[z])) e⟩) (λ_ _ e=>e) (λ_ _ _ e=>e) (λb C e=>⟨#[],by rw[e];simp⟩) (λm j=>?_) (λb u e=>?_) a.bare
 .have e:b=it:=by simpa using l
  subst e;exact⟨y,g,w,t⟩
 .obtain⟨o,A,B,h,r⟩:=j;exact⟨o,A,B,k _ o (Ne.symm g) h,r⟩
 .refine(a.hok b u e).stay (λc v hc q=>k c v ?_ q) (λ_ q=>q) λ_ _ q=>q;rcases hc with z|z
  .rw[z];exact d b u e
  .exact d c _ z
def Inv.tok(a:Inv X U I H s)(t:Nat):Inv X U I H { s with toks:=t }:=a.un (h':=s.heap) (t':=t) Un.refl a.hok
def Inv.kept{t':Nat}(a:Inv X U I H s)(k:∀b u,s.heap.get? b=some u->h'.get? b=some u):Inv X U I H { s with heap:=h',toks:=t' }:=a.un (Un.kept k) (a.hok.kept k)
def Inv.laid{a:Addr}{o:HO}{t':Nat}(c:Inv X U I H s)(k:∀b u,s.heap.get? b=some u->h'.get? b=some u)(e:s.zs<=a)(d:gM X.prog X.w (upd H a o) h' a o) :
  Inv X U I (upd H a o) { s with heap:=h',toks:=t' }:=c.un (Un.laid k e (c.hok.fresh e)) (c.hok.laid k e d)
def Inv.write{x e:Addr}{o:HO}{t':Nat}(a:Inv X U I H s)(d:kz (H x))(h:e=x\/H e=some (.own x))(k:∀b u,b≠e->s.heap.get? b=some u->h'.get? b=some u)(f:∃u,h'.get? e=some u)
 (c:gM X.prog X.w (upd H x o) h' x o):Inv X U I (upd H x o) { s with heap:=h',toks:=t' }:=a.un (Un.write d h k f) (a.hok.write d h k f c)
def Inv.pins_of{b:Δ}(a:Inv X U I H s)(h:∀p∈b,s.heap.get? p.1=some p.2/\H p.1=none/\p.1≠X.env.locals/\p.1∉X.fs/\∀v,p.2.data≠.cell v):Inv X b I H s :=
 ⟨a.ok,a.os,a.bare,a.base,a.loc,a.cell,a.free,a.freeC,λp c=>(Y1.mp c).elim (λz=>a.pin p (U2 _ z)) (h p),a.hok,a.len⟩
def UW{N:Φ}(c:N.Nodup){j:Nat}(a:N[i]?=some x)(b:N[j]?=some x):i=j:=by
 obtain⟨g,e⟩:=ao.mp a;obtain⟨f,d⟩:=ao.mp b;exact(List.getElem_inj c).mp (e.trans d.symm)
abbrev zw(X:Cx)(a:Str):Prop:=X.fn a=true\/X.env.scope.names.lookup a=some .local
def abw(f:Inv X U I H s)(hN:X.N.Nodup)(K:X.N[i]?=some x)(t:fA X.env.scope x)(r:z4 v u)
 (h:∀s',Inv X U (I.set i (some v)) H s'->(∃a,Heap.SameBut a s.heap s'.heap/\(a=X.env.locals\/X.env.cells.lookup x=some a))->Q () s')(hf:zw X x):wpAny M A (storeName X.env x u) Q E s:=by
 obtain⟨m,hn,hl⟩:=id f.loc;have pc:(X.env.scope.kind == .class || (X.env.scope.kind == .module&&X.env.locals != X.env.globals))=false:=by rw[f.ok.kind];rfl
 have D:i<I.length:=by rw[f.len];exact(ao.mp K).1
 have J:=f.cne;have eL:∀{a:Addr}{h':Heap},(∃o,s.heap.get? a=some o/\H a=none)->Heap.SameBut a s.heap h'->HOk X.prog X.w H h':=λ{a h'}ha g b ob e=>by
  obtain⟨_,_,bP⟩:=ha;refine(f.hok b ob e).stay (λc L hc q=>(g.2 c ?_).trans q) (λ_ q=>q) λ_ _ q=>q;rintro rfl;rcases hc with rfl|hc
  .rw[bP]at e;cases e
  .rw[bP]at hc;cases hc
 rcases t with C|C
 .refine wpAny_storeName_local C hn (λh' hn' g=>?_) pc;obtain⟨oL,_,_,hoL,_⟩:=id hn;refine h _ ⟨f.ok,f.os,f.bare,⟨λb o e n G t=>?_,λb o e n G t=>?_,f.base.free,λb o e t=>?_,f.base.tups,f.base.frzs,f.base.tbls⟩,⟨_,hn',λj y R l B e3=>?_⟩,λy c e=>?_,f.free,f.freeC,λp Z=>?_,eL ⟨oL,hoL,f.free⟩ g,by simpa using f.len⟩ ⟨_,g,.inl rfl⟩
  .exact(g.2 b (aQ (aR (aK e) f.ok.above))).trans (f.base.keep b o e n G t)
  .obtain⟨T,l⟩:=f.base.slot b o e n G t;exact⟨T,(g.2 b (aQ (aR (aK e) f.ok.above))).trans l⟩
  .obtain⟨o',l⟩:=f.base.there b o e t;exact⟨o',(g.2 b (aQ (aR (aK e) f.ok.above))).trans l⟩
  .by_cases F:j=i
   .subst F;rw[K]at l;cases l;rw[Tx D]at B;cases B;exact⟨u,r,.inl ⟨C,by simp⟩⟩
   .rw[UT (Ne.symm F)]at B;obtain⟨S,V,q⟩:=hl j y R l B e3;refine⟨S,V,?_⟩;rcases q with⟨k,e⟩|⟨k,c,e,z⟩
    .refine .inl ⟨k,?_⟩;have:y≠x:=λe=>F (UW hN l (e ▸ K));simp[this,e]
    .exact .inr ⟨k,c,e,z.sameBut g (J y c e)⟩
  .obtain⟨L,z⟩:=f.cell y c e;exact⟨L,z.sameBut g (J y c e)⟩
  .obtain⟨e,n,O,W,d⟩:=f.pin p Z;exact⟨(g.2 p.1 O).trans e,n,O,W,d⟩
 .have Y:X.fn x:=by
   rcases hf with z|z
   .exact z
   .rw[z]at C;cases C
  obtain⟨c,hc⟩:=f.ok.has x (.inl C);obtain⟨L,z⟩:=f.cell x c hc;refine wpAny_storeName_cell f.ok.kind C hc z (λh' du g=>?_);obtain⟨oc,hV,oq⟩:=id z;refine h { s with heap:=h' } ⟨f.ok,f.os,f.bare,⟨λb o e n G t=>?_,λb o e n G t=>?_,f.base.free,λb o e t=>?_,f.base.tups,f.base.frzs,f.base.tbls⟩,⟨m,hn.sameBut g (Ne.symm (J x c hc)),λj y R l B e3=>?_⟩,λy P e=>?_,f.free,f.freeC,λp Z=>?_,eL ⟨oc,hV,f.freeC x c hc⟩ g,by simpa using f.len⟩ ⟨c,g,.inr hc⟩
  .exact(g.2 b (aQ (aR (aK e) (f.ok.cab x c Y hc)))).trans (f.base.keep b o e n G t)
  .obtain⟨T,l⟩:=f.base.slot b o e n G t;exact⟨T,(g.2 b (aQ (aR (aK e) (f.ok.cab x c Y hc)))).trans l⟩
  .obtain⟨o',l⟩:=f.base.there b o e t;exact⟨o',(g.2 b (aQ (aR (aK e) (f.ok.cab x c Y hc)))).trans l⟩
  .by_cases F:j=i
   .subst F;rw[K]at l;cases l;rw[Tx D]at B;cases B;exact⟨u,r,.inr ⟨.inl C,c,hc,du⟩⟩
   .rw[UT (Ne.symm F)]at B;obtain⟨S,V,q⟩:=hl j y R l B e3;refine⟨S,V,?_⟩;rcases q with q|⟨k,P,e,z'⟩
    .exact .inl q
    .refine .inr ⟨k,P,e,z'.sameBut g ?_⟩;rintro rfl;exact F (UW hN l (f.ok.inj _ _ _ e hc ▸ K))
  .by_cases l9:P=c
   .subst l9;exact⟨_,du⟩
   .obtain⟨w2,z2⟩:=f.cell y P e;exact⟨w2,z2.sameBut g l9⟩
  .obtain⟨e,n,O,W,d⟩:=f.pin p Z;refine⟨(g.2 p.1 ?_).trans e,n,O,W,d⟩;intro q;rw[q,hV]at e;have q':oc=p.2:=Option.some.inj e;exact d L (by rwa[<- q'])
def yG(a:Inv X U I H s)(e:X.N.Nodup)(c:X.N[i]?=some x)(b:fA X.env.scope x)(r:z4 v u)
 (h:∀s',Inv X U (I.set i (some v)) H s'->Q () s')(d:zw X x:=by first|exact .inl rfl|exact .inr rfl|assumption):wpAny M A (storeName X.env x u) Q E s :=
 abw a e c b r (λs' f _=>h s' f) d
def Inv.call'(a:Inv X U I H s)(f:s'.os=s.os)(u:Un (ci X.stack) ch H Y s.heap s'.heap)(hok:HOk X.prog X.w Y s'.heap)(g:AllBare s'.gens)
 (h:∀b∈ch,(b∈X.ex\/X.s₀.zs<=b)/\b≠X.env.locals/\(∀x c,X.env.cells.lookup x=some c->c≠b)/\∀p∈X.pn++U,p.1≠b):Inv X U I Y s':=by
 obtain⟨h',g',d,t',o'⟩:=s';have e:o'=s.os:=f;subst e;exact a.call (g':=g') (t':=t') (d':=d) u hok g h
abbrev XK:=Value->Ξ->Hp->Prop
abbrev St:=List xD
abbrev VK:=V->Hp->Prop
abbrev TE:=St->Hp->VK->Prop
abbrev TT:=St->Hp->(Bool->Hp->Prop)->Prop
abbrev TA:=St->Hp->(Ζ->Hp->Prop)->Prop
structure Ends where
 nx:St->Hp->Prop
 rt:VK
 bk:St->Hp->Prop:=λ_ _=>False
 ct:St->Hp->Prop:=λ_ _=>False
abbrev TS:=Ends->St->Hp->Prop
def EP(X:Cx)(U:Δ)(I:St)(Q:VK)(u:Value)(s':Shared):Prop:=∃v Y,Inv X U I Y s'/\z4 v u/\Q v Y
def TP(X:Cx)(U:Δ)(I:St)(Q:Bool->Hp->Prop)(b:Bool)(s':Shared):Prop:=∃Y,Inv X U I Y s'/\Q b Y
def AP(X:Cx)(U:Δ)(I:St)(Q:Ζ->Hp->Prop)(b:Θ)(s':Shared):Prop:=∃a Y,Inv X U I Y s'/\z5 a b/\Q a Y
def SP(X:Cx)(U:Δ)(D:Ends)(f:Flow)(s':Shared):Prop :=
 match f with
 |.next=>∃a Y,Inv X U a Y s'/\D.nx a Y
 |.brk=>∃a Y,Inv X U a Y s'/\D.bk a Y
 |.cont=>∃a Y,Inv X U a Y s'/\D.ct a Y
 |.ret u=>∃v a Y,Inv X U a Y s'/\z4 v u/\D.rt v Y
def PE(X:Cx)(e:Expr)(t:TE):Prop :=
 ∀(U:Δ)(s:Shared)(I:St)(H:Hp)(Q:VK),Inv X U I H s->t I H Q->wpAny (model X.prog X.w) X.A (eval e X.env) (EP X U I Q) X.xe s
def PT(X:Cx)(e:Expr)(t:TT):Prop :=
 ∀(U:Δ)(s:Shared)(I:St)(H:Hp)(Q:Bool->Hp->Prop),Inv X U I H s->t I H Q->wpAny (model X.prog X.w) X.A (isTrue e X.env (eval e X.env)) (TP X U I Q) X.xe s
def PW(X:Cx)(e:Expr)(t:TT):Prop :=
 ∀(a:Sem Value)(U:Δ)(s:Shared)(I:St)(H:Hp)(Q:Bool->Hp->Prop),Inv X U I H s->t I H Q->wpAny (model X.prog X.w) X.A (isTrue e X.env a) (TP X U I Q) X.xe s
def PW.pt{X:Cx}{t:TT}(h:PW X e t):PT X e t:=h _
def PA(X:Cx)(a:xw)(t:TA):Prop :=
 ∀(N:Pos)(U:Δ)(s:Shared)(I:St)(H:Hp)(Q:Ζ->Hp->Prop),Inv X U I H s->t I H Q->wpAny (model X.prog X.w) X.A (spliced (backTo N (starEach a X.env))) (AP X U I Q) X.xe s
def PS(X:Cx)(a:Stmt)(t:TS):Prop :=
 ∀(U:Δ)(s:Shared)(I:St)(H:Hp)(D:Ends),Inv X U I H s->t D I H->wpAny (model X.prog X.w) X.A (exec a X.env) (SP X U D) X.xe s
def PSs(X:Cx)(a:xS)(t:TS):Prop :=
 ∀(U:Δ)(s:Shared)(I:St)(H:Hp)(D:Ends),Inv X U I H s->t D I H->wpAny (model X.prog X.w) X.A (execs a X.env) (SP X U D) X.xe s
def ah{b:Type}{t:Sem b}{Q c:b->Shared->Prop}(h:wpAny M A t Q E s)(d:∀a s,Q a s->c a s):wpAny M A t c E s:=wpAny_mono h d λ_ _ x=>x
variable{I:St}{c tg:Expr}{J ys:Ζ}{K:Frag}{N bo:Pos}{es:xw}{k:Nat}{te:TE}
section
variable{X:Cx}
def oy(i:Nat):TE:=λI H Q=>∃v,I[i]?=some (some v)/\Q v H
def tC(v:V):TE:=λ_ H Q=>Q v H
abbrev qV(a:Str):Prop:=(a==("__debug__":Str))=false
abbrev qB(a:Str):Prop:=(a==("__classdict__":Str))=false
def P3{N:Pos}(p:X.N[i]?=some x)(j:kq X.env.scope x)(hd:qV x:=by decide)(q:qB x:=by decide):PE X (.Name x N) (oy i):=by
 intro U s I H Q a h;obtain⟨v,e,h⟩:=h;obtain⟨m,k,o⟩:=a.loc;obtain⟨u,r,l⟩:=o i x v p e j;have d:EP X U I Q u s:=⟨v,H,a,r,h⟩;rcases l with⟨b,n⟩|⟨b,c,f,g⟩
 .exact wpAny_Name (wpAny_loadName_local a.ok.kind b k n d) hd
 .rcases b with b|b
  .exact wpAny_Name (wpAny_loadName_cell a.ok.kind b f g d) hd
  .exact wpAny_Name (wpAny_loadName_free a.ok.kind b f g d q) hd
def NL{i j N} : PE X (.Constant (.int i) j N) (tC (.int i)):=λ_ _ _ H _ I h=>wpAny_Constant_int ⟨.int i,H,I.tok _,⟨_,rfl⟩,h⟩
def L7{b j N} : PE X (.Constant (.bool b) j N) (tC (.bl b)):=λ_ _ _ H _ I h=>Constant_bool ⟨.bl b,H,I,rfl,h⟩
def NU{j N} : PE X (.Constant .none j N) (tC .non):=λ_ _ _ H _ I h=>Constant_none ⟨.non,H,I,rfl,h⟩
def RH{x j N} : PE X (.Constant (.str x) j N) (tC (.str x)):=λ_ _ _ H _ I h=>Calls.Constant_str ⟨.str x,H,I.tok _,⟨_,rfl⟩,h⟩
def Gl(X:Cx)(x:Str):Prop:=X.env.kindOf x=some .globalImplicit
def Ej{N:Pos}{Q:Ε}(a:Inv X U I H s)(c:Gl X x)(b:X.mg x=some u)(h:Q u s)
 (hd:qV x:=by decide):wpAny (model X.prog X.w) X.A (eval (.Name x N) X.env) Q E s :=
 Calls.Name_function_global a.ok.kind c (Calls.loadGlobal_global (by rw[a.ok.glob];exact a.mod.glob.keeps a.bk) b h) hd
def Di{N:Pos}{Q:Ε}(a:Inv X U I H s)(e:Gl X x)(d:X.mg x=none)(b:bootBuiltins x=some u)(h:Q u s)
 (c:x≠"__name__":=by decide)(hd:qV x:=by decide):wpAny (model X.prog X.w) X.A (eval (.Name x N) X.env) Q E s:=by
 obtain⟨i,g,f⟩:=a.mod.blt;exact Calls.Name_function_global a.ok.kind e (Calls.loadGlobal_builtin (by rw[a.ok.glob];exact a.mod.glob.keeps a.bk) d (by rw[a.ok.blt];exact g.keeps a.bk) ((f x c).trans b) h) hd
def Y9{N:Pos}(b:Gl X x)(a:X.mg x=some u)(r:z4 v u)(hd:qV x:=by decide):PE X (.Name x N) (tC v) :=
 λ_ _ _ H _ I h=>Ej I b a ⟨v,H,I,r,h⟩ hd
def _K{N:Pos}(d:Gl X x)(c:X.mg x=none)(a:bootBuiltins x=some u)(r:z4 v u)(b:x≠"__name__":=by decide)(hd:qV x:=by decide):PE X (.Name x N) (tC v) :=
 λ_ _ _ H _ I h=>Di I d c a ⟨v,H,I,r,h⟩ b hd
variable{a b:Expr}{ta tb:TE}{N:Pos}
def PC(X:Cx)(e:CmpOp)(a b:Expr)(t:TE):Prop :=
 ∀(U:Δ)(s:Shared)(I:St)(H:Hp)(Q:VK),Inv X U I H s->t I H Q ->
  wpAny (model X.prog X.w) X.A (eval a X.env) (λv d=>wpAny (model X.prog X.w) X.A (eval b X.env) (λu c=>wpAny (model X.prog X.w) X.A (compareOp e v u) (EP X U I Q) X.xe c) X.xe d) X.xe s
def tB(t:TE):TT:=λI H Q=>t I H λx Z=>∃c,x=.bl c/\Q c Z
def D6{f:CmpOp}{t:TE}(h:PC X f a b t)(g:behindInMarks f b=false:=by rfl):PT X (.Compare a [f] [b] N) (tB t):=by
 intro U s I H Q e hw;refine wpAny_isTrue_Compare1 (ah (h U s I H _ e hw) λv p g=>ah g λu o l=>ah l λc n k=>?_) g;obtain⟨x,Z,m,i,j⟩:=k;obtain⟨d,rfl,q⟩:=j;cases i;exact wpAny_truthy_bool ⟨Z,m,q⟩
variable{tA kX:TT}{rest:xw}
def I'(t u:TT):TT:=λI H Q=>t I H λc Z=>if c=true then u I Z Q else Q false Z
def F2(t u:TT):TT:=λI H Q=>t I H λc Z=>if c=true then Q true Z else u I Z Q
def Kb(t:TT):TT:=λI H Q=>t I H λc Z=>Q (!c) Z
def pw_and1(d:PT X a tA):PW X (.BoolOp .And [a] N) tA:=by
 intro f U s I H Q b h;refine isTrue_and (ah (d U s I H Q b h) λc g e=>?_);cases c with
 |true=>exact isTrue_and_nil e
 |false=>exact e
def pw_or1(d:PT X a tA):PW X (.BoolOp .Or [a] N) tA:=by
 intro f U s I H Q b h;refine isTrue_or (ah (d U s I H Q b h) λc g e=>?_);cases c with
 |false=>exact isTrue_or_nil e
 |true=>exact e
def pw_and(k:PT X a tA)(j:PW X (.BoolOp .And (b::rest) N) kX):PW X (.BoolOp .And (a::b::rest) N) (I' tA kX):=by
 intro g U s I H Q d h;refine isTrue_and (ah (k U s I H _ d h) λc i l=>?_);obtain⟨Z,f,e⟩:=l;cases c with
 |true=>exact j g U i I Z Q f e
 |false=>exact⟨Z,f,e⟩
def pw_or(k:PT X a tA)(j:PW X (.BoolOp .Or (b::rest) N) kX):PW X (.BoolOp .Or (a::b::rest) N) (F2 tA kX):=by
 intro g U s I H Q d h;refine isTrue_or (ah (k U s I H _ d h) λc i l=>?_);obtain⟨Z,f,e⟩:=l;cases c with
 |true=>exact⟨Z,f,e⟩
 |false=>exact j g U i I Z Q f e
def NO(d:PT X a tA):PT X (.UnaryOp .Not a N) (Kb tA):=by
 intro U s I H Q b h;exact isTrue_not (d U s I H (λc Z=>Q (!c) Z) b h)
def NB(ta tb:TE):TE:=λI H Q=>ta I H λx Z=>∃c,x=.bl c/\if c=true then tb I Z Q else Q (.bl false) Z
def MS(ta:TE):TE:=λI H Q=>ta I H λx Z=>∃c,x=.bl c/\Q (.bl (!c)) Z
def OX{c}{t:TE}(h:PE X a t):PE X (.BoolOp c [a] N) t:=λU s I H Q b d=>BoolOp_one (h U s I H Q b d)
def PY(k:PE X a ta)(j:PE X (.BoolOp .And (b::rest) N) tb):PE X (.BoolOp .And (a::b::rest) N) (NB ta tb):=by
 intro U s I H Q d h;refine BoolOp_and (ah (k U s I H _ d h) λv g l=>?_);obtain⟨x,Z,f,i,e⟩:=l;obtain⟨c,rfl,e⟩:=e;cases i;refine wpAny_truthy_bool ?_;cases c with
 |true=>exact j U g I Z Q f e
 |false=>exact⟨.bl false,Z,f,rfl,e⟩
def OV(f:PE X a ta):PE X (.UnaryOp .Not a N) (MS ta):=by
 intro U s I H Q b h;refine UnaryOp_ (ah (f U s I H _ b h) λv j g=>?_);obtain⟨x,Z,i,e,d⟩:=g;obtain⟨c,rfl,d⟩:=d;cases e;exact not_of (wpAny_truthy_bool ⟨.bl (!c),Z,i,rfl,d⟩)
def F4(t:TT)(ta tb:TE):TE:=λI H Q=>t I H λc Z=>if c=true then ta I Z Q else tb I Z Q
def _9(hc:PT X c tA)(k:PE X a ta)(j:PE X b tb):PE X (.IfExp c a b N) (F4 tA ta tb):=by
 intro U s I H Q e h;refine wpAny_IfExp (ah (hc U s I H _ e h) λd f l=>?_);obtain⟨Z,i,g⟩:=l;cases d with
 |true=>exact k U f I Z Q i g
 |false=>exact j U f I Z Q i g
end
def SqL(K:Frag)(H:Hp)(a:Addr)(J:Ζ):Prop :=
 Rd H a (.lst J) \/
  ∃(o:Obj)(b:xI)(n:Nat),K.lookup a=some o/\o.cls=.type "list"/\o.dict=none/\o.data=.seq b n/\b.size<=sizeLine/\z5 J b.toList
def SqT(K:Frag)(H:Hp)(a:Addr)(J:Ζ):Prop :=
 Rd H a (.tup J) \/
  ∃(o:Obj)(b:xI)(n:Nat),K.lookup a=some o/\o.cls=.type "tuple"/\o.data=.seq b n/\b.size<=sizeLine/\z5 J b.toList
def Ix:Value->xD
 |.none=>some .non
 |.bool b=>some (.bl b)
 |.int i _=>some (.int i)
 |.str x _=>some (.str x)
 |.bytes b _=>some (.byt b)
 |.float b _=>some (.flt b)
 |.ref a=>some (.ref a)
 |.type n=>some (.ty n)
 |_=>none
def z4.abs{x:V}(r:z4 x u):Ix u=some x:=by
 cases x with
 |non=>cases r;rfl
 |bl _=>cases r;rfl
 |int _=>obtain⟨t,rfl⟩:=r;rfl
 |str _=>obtain⟨t,rfl⟩:=r;rfl
 |byt _=>obtain⟨t,rfl⟩:=r;rfl
 |flt _=>obtain⟨t,rfl⟩:=r;rfl
 |ref _=>cases r;rfl
 |ty _=>cases r;rfl
def z4.inj{x y:V}{u:Value}(r:z4 x u)(q:z4 y u):x=y:=Option.some.inj (r.abs.symm.trans q.abs)
theorem z5.inj:∀{J ys:Ζ}{a:Θ},z5 J a->z5 ys a->J=ys
 |_,_,_,.nil,.nil=>rfl
 |_,_,_,.cons r t,.cons b t'=>by rw[r.inj b,z5.inj t t']
def SqL.of(h:H a=some (.lst J)):SqL K H a J:=.inl (.inl h)
def SqT.of(h:H a=some (.tup J)):SqT K H a J:=.inl (.inl h)
def Inv.list(b:Inv X U I H s)(h:SqL X.K H a J):∃c:Θ,z5 J c/\PlainL s.heap a c.toArray/\J.length<=sizeLine:=by
 rcases h with h|⟨o,c,n,g,i,hd,f,d,r⟩
 .obtain⟨z,c,n,r,e⟩:=h.ok b.hok;exact⟨c,r,⟨_,n,e,rfl,rfl,rfl⟩,z⟩
 .refine⟨c.toList,r,⟨o,n,b.kIn a o g,i,hd,by simpa using f⟩,?_⟩;have e:=r.length;simp only[Array.length_toList]at e;exact aL (WG e) d
def Inv.tuple(b:Inv X U I H s)(h:SqT X.K H a J):∃c:Θ,z5 J c/\IsTup s.heap a c.toArray/\J.length<=sizeLine:=by
 rcases h with h|⟨o,c,n,g,i,f,d,r⟩
 .obtain⟨z,c,r,p⟩:=h.ok b.hok;exact⟨c,r,p,z⟩
 .refine⟨c.toList,r,⟨o,b.kIn a o g,i,n,by simpa using f⟩,?_⟩;have e:=r.length;simp only[Array.length_toList]at e;exact aL (WG e) d
def Inv.list_inj(b:Inv X U I H s)(h:SqL X.K H a J)(h':SqL X.K H a ys):J=ys:=by
 obtain⟨f,r,⟨o,n,e,_,_,d⟩,_⟩:=b.list h;obtain⟨c,j,⟨o',l,g,_,_,i⟩,_⟩:=b.list h';rw[e]at g;cases g;rw[d]at i;injection i with k _;have:f=c:=by simpa using ZH Array.toList k
 subst this;exact r.inj j
def Inv.tuple_inj(b:Inv X U I H s)(h:SqT X.K H a J)(h':SqT X.K H a ys):J=ys:=by
 obtain⟨f,r,⟨o,e,_,n,d⟩,_⟩:=b.tuple h;obtain⟨c,j,⟨o',g,_,l,i⟩,_⟩:=b.tuple h';rw[e]at g;cases g;rw[d]at i;injection i with k _;have:f=c:=by simpa using ZH Array.toList k
 subst this;exact r.inj j
abbrev Cx.wish(X:Cx)(E:Ε):Cx:={ X with xe:=E }
abbrev Cx.nox(X:Cx):Cx:=X.wish λ_ _=>False
def Cx.Ok.wish{X:Cx}(a:X.Ok)(E:Ε):(X.wish E).Ok :=
 ⟨a.mod,a.kind,a.glob,a.blt,a.above,a.inj,a.has,a.cab,a.hd,a.frames,a.stk,a.exf,a.bs,a.bsz,a.noex,a.exfs,a.funs,a.frf⟩
def Cx.Ok.unwish{X:Cx}(a:(X.wish E).Ok):X.Ok :=
 ⟨a.mod,a.kind,a.glob,a.blt,a.above,a.inj,a.has,a.cab,a.hd,a.frames,a.stk,a.exf,a.bs,a.bsz,a.noex,a.exfs,a.funs,a.frf⟩
def Inv.wish(a:Inv X U I H s)(E:Ε):Inv (X.wish E) U I H s:=⟨a.ok.wish E,a.os,a.bare,a.base,a.loc,a.cell,a.free,a.freeC,a.pin,a.hok,a.len⟩
def Inv.unwish(a:Inv (X.wish E) U I H s):Inv X U I H s:=⟨a.ok.unwish,a.os,a.bare,a.base,a.loc,a.cell,a.free,a.freeC,a.pin,a.hok,a.len⟩
def SP.unwish{D:Ends}{f:Flow}{s':Shared}(h:SP (X.wish E) U D f s'):SP X U D f s':=by
 cases f with
 |next=>obtain⟨a,Y,I,q⟩:=h;exact⟨a,Y,I.unwish,q⟩
 |brk=>obtain⟨a,Y,I,q⟩:=h;exact⟨a,Y,I.unwish,q⟩
 |cont=>obtain⟨a,Y,I,q⟩:=h;exact⟨a,Y,I.unwish,q⟩
 |ret u=>obtain⟨v,a,Y,I,r,q⟩:=h;exact⟨v,a,Y,I.unwish,r,q⟩
def PSs.nox{b:xS}{t:TS}(h:PSs X.nox b t):PSs X b t:=λU s I H D a c =>
 wpAny_mono (h U s I H D (a.wish _) c) (λ_ _ q=>q.unwish) λ_ _ z=>False.elim z
section
variable{X:Cx}{st:Stmt}{rest:xS}{t u:TS}{e:Expr}{te:TE}{N:Pos}
def Nw:TS:=λD I H=>D.nx I H
def ia(t u:TS):TS:=λD I H=>t { D with nx:=u D } I H
def _J:PSs X [] Nw:=λ_ _ I H _ a h=>wpAny_execs_nil ⟨I,H,a,h⟩
def lJ(e:PS X st t)(d:PSs X rest u):PSs X (st::rest) (ia t u):=by
 intro U s I H D a h;refine wpAny_execs_cons (ah (e U s I H { D with nx:=u D } a h) λf c q=>?_);cases f with
 |next =>
  obtain⟨b,Y,g,q⟩:=q;exact d U c b Y D g q
 |ret v=>exact q
 |brk=>exact q
 |cont=>exact q
def Ze(b:PS X st t):PSs X [st] t:=by
 intro U s I H D a h;refine wpAny_execs_cons (ah (b U s I H D a h) λf c q=>?_);cases f with
 |next=>exact wpAny_execs_nil q
 |ret v=>exact q
 |brk=>exact q
 |cont=>exact q
def Inv.quiet(a:Inv X U I H s):interactive X.env=false:=by simp[interactive,a.ok.kind]
def L4(te:TE):TS:=λD I H=>te I H λ_ Z=>D.nx I Z
def wL(d:PE X e te)(c:swapsWith e none N.line X.env=pure false:=by rfl):PS X (.Expr e N) (L4 te):=by
 intro U s I H D a h;exact wpAny_Expr_any (ah (d U s I H _ a h) λv i f=>by obtain⟨x,Z,g,j,b⟩:=f;exact⟨I,Z,g,b⟩) a.quiet c
def vE(te:TE):TS:=λD I H=>te I H D.rt
def Rv(d:PE X e te):PS X (.Return (some e) N) (vE te):=by
 intro U s I H D a h;exact wpAny_Return_some (ah (d U s I H _ a h) λv i f=>by obtain⟨x,Z,g,b,c⟩:=f;exact⟨x,I,Z,g,b,c⟩)
def Lu(c:TT)(t u:TS):TS:=λD I H=>c I H λb Z=>if b=true then t D I Z else u D I Z
def M0{a b:xS}{f:TT}(hc:PT X c f)(l:PSs X a t)(k:PSs X b u):PS X (.If c a b N) (Lu f t u):=by
 intro U s I H D e h;refine wpAny_If (ah (hc U s I H _ e h) λd g m=>?_);obtain⟨Z,j,i⟩:=m;cases d with
 |true=>exact l U g I Z D j i
 |false=>exact k U g I Z D j i
def Pc:TS:=λ_ _ _=>False
def _C:PS X st Pc:=λ_ _ _ _ _ _ h=>h.elim
end
abbrev TG:=V->St->Hp->(St->Hp->Prop)->Prop
abbrev f7:=Ζ->St->Hp->(St->Hp->Prop)->Prop
def PG(X:Cx)(b:Expr)(t:TG):Prop :=
 ∀(U:Δ)(s:Shared)(I:St)(H:Hp)(v:V)(u:Value)(Q:St->Hp->Prop),Inv X U I H s->z4 v u->t v I H Q ->
  wpAny (model X.prog X.w) X.A (assign b X.env u) (λ_ s'=>∃a Y,Inv X U a Y s'/\Q a Y) X.xe s
def PGs(X:Cx)(W:xw)(t:f7):Prop :=
 ∀(U:Δ)(s:Shared)(I:St)(H:Hp)(b:Ζ)(c:Θ)(Q:St->Hp->Prop),Inv X U I H s->z5 b c->t b I H Q ->
  wpAny (model X.prog X.w) X.A (assignInOrder ((assignEach W X.env).map (·.2)) c) (λ_ s'=>∃a Y,Inv X U a Y s'/\Q a Y) X.xe s
abbrev nN:=V->V->V->Hp->(Hp->Prop)->Prop
def t6(X:Cx)(t:nN):Prop :=
 ∀(U:Δ)(s:Shared)(I:St)(H:Hp)(o i v:V)(a b u:Value)(Q:Hp->Prop),Inv X U I H s->z4 o a->z4 i b->z4 v u->t o i v H Q ->
  wpAny (model X.prog X.w) X.A (setItem a b u) (λ_ s'=>∃Y,Inv X U I Y s'/\Q Y) X.xe s
abbrev l8:=V->V->Hp->VK->Prop
def p5(X:Cx)(a:Operator)(t:l8):Prop :=
 ∀(U:Δ)(s:Shared)(I:St)(H:Hp)(x y:V)(v u:Value)(Q:VK),Inv X U I H s->z4 x v->z4 y u->t x y H Q ->
  wpAny (model X.prog X.w) X.A (inplaceOp a v u) (EP X U I Q) X.xe s
def Df(i:Nat):TG:=λv I H Q=>Q (I.set i (some v)) H
def mD(e:X.N.Nodup)(c:X.N[i]?=some x)(b:fA X.env.scope x)(d:zw X x:=by first|exact .inl rfl|exact .inr rfl|assumption):PG X (.Name x N) (Df i):=by
 intro U s I H v u Q a r h;exact wpAny_assign_Name (yG a e c b r (λs' f=>⟨_,H,f,h⟩) d)
def LG:f7:=λa I H Q=>a=[]/\Q I H
def OB(t:TG)(u:f7):f7:=λb I H Q=>∃v r,b=v::r/\t v I H λa Y=>u r a Y Q
def VE:PGs X [] LG:=by
 intro U s I H b c Q a r h;obtain⟨e,h⟩:=h;subst e;cases r;exact assignInOrder_nil ⟨I,H,a,h⟩
def abM{t:TG}{u:f7}(k:PG X e t)(j:PGs X es u)
 (g:(assignEach (e::es) X.env).map (·.2)=assign e X.env::(assignEach es X.env).map (·.2):=by rfl):PGs X (e::es) (OB t u):=by
 intro U s I H n o Q a r h;obtain⟨v,vr,l,h⟩:=h;subst l;cases r with
 |cons r d =>
  rw[g];refine assignInOrder_cons (ah (k U s I H _ _ _ a r h) λ_ c i=>?_);obtain⟨b,Z,m,f⟩:=i;exact j U c b Z _ _ Q m d f
def IB(K:Frag)(n:Nat)(t:f7):TG:=λv I H Q=>∃a J,v=.ref a/\SqT K H a J/\J.length=n/\t J I H Q
abbrev zi(X:Cx)(a:xw):Prop:=(assignEach a X.env).findIdx? (·.1)=none
def NS{t:f7}{n:Nat}(hc:X.calm)(h:PGs X es t)
 (m:(assignEach es X.env).length=n:=by rfl)(w:zi X es:=by rfl):PG X (.Tuple es k N) (IB X.K n t):=by
 intro U s I H v u Q c r hw;obtain⟨a,J,q,l,p,hw⟩:=hw;subst q;cases r;obtain⟨g,d,j,y⟩:=c.tuple l;refine assign_Tuple_tuple (c.ok.hd hc) j (by simp[m,<- p,d.length]) w λh' i=>?_;have x:Inv X U I H { s with heap:=h' }:=c.kept (t':=s.toks) λb o e=>i b o (aQ (aK e)) e;exact h U _ I H J _ Q x (by simpa using d) hw
def KI(a b:TE)(t:nN):TG:=λv I H Q=>a I H λo Z=>b I Z λi d=>t o i v d λc=>Q I c
def D1{o i:Expr}{e f:TE}{t:nN}(p:PE X o e)(q:PE X i f)(n:t6 X t)
 (w:∀v,assign (.Subscript o i N) X.env v=(do
   let b <- holding [v] (eval o X.env)
   let c <- holding [v,b] (eval i X.env)
   standAt N
   holding [v,b,c] (setItem b c v)
   release [v,b,c] []):=by intro _;rfl):PG X (.Subscript o i N) (KI e f t):=by
 intro U s I H v u Q a r h;rw[w];refine ZU (wpAny_holding (ah (p U s I H _ a h) λb j d=>?_));obtain⟨x,Z,B,l,m⟩:=d;refine ZU (wpAny_holding (ah (q U j I Z _ B m) λc g d=>?_));obtain⟨y,D,A,k,q2⟩:=d;refine ZU (wpAny_standAt (ZU (wpAny_holding (ah (n U g I D x y v b c u _ A l k r q2) λ_ E d=>?_))));obtain⟨C,z,q3⟩:=d;exact wpAny_release ⟨I,C,z,q3⟩
def lv(te:TE)(g:TG):TS:=λD I H=>te I H λx Z=>g x I Z D.nx
def XJ{g:TG}(k:PE X e te)(j:PG X tg g)(i:swapsWithSole [tg] e N.line X.env=pure false:=by rfl)(f:swappedStores [tg] e X.env=pure none:=by rfl)
 (m:(assignEach [tg] X.env).map (·.2)=[assign tg X.env]:=by rfl):PS X (.Assign [tg] e N) (lv te g):=by
 intro U s I H D a h;refine wpAny_Assign_stores (ah (k U s I H _ a h) λv b l=>?_) i f;obtain⟨x,Z,n,c,d⟩:=l;rw[m];exact ah (j U b I Z x v _ n c d) λ_ o q=>q
def Yw(m:X.N.Nodup)(g:X.N[i]?=some x)(d:fA X.env.scope x)(k:PE X e te)(f:swapsWith e (some (.Name x bo)) N.line X.env=pure false:=by rfl)(j:zw X x:=by first|exact .inl rfl|exact .inr rfl|assumption) :
  PS X (.Assign [.Name x bo] e N) (lv te (Df i)):=by
 intro U s I H D a h;refine wpAny_Assign_Name (ah (k U s I H _ a h) λv q l=>?_) f;obtain⟨y,Z,o,b,c⟩:=l;exact yG o m g d b (λp n=>⟨_,Z,n,c⟩) j
def J'(i j:Nat)(b:TA):TS:=λD I H=>b I H λa Z=>∃v w,a=[v,w]/\D.nx ((I.set i (some v)).set j (some w)) Z
variable{a:Expr}{ta:TA}{op:Operator}{body:xS}{p:Pos}{fp:Ψ}
def PF{j:Nat}{y:Str}{b:Expr}{r n t:Pos}{u z f}(hc:X.calm)(F:X.N.Nodup)(S:X.N[i]?=some x)(R:X.N[j]?=some y)(P:i≠j)
 (C:X.env.scope.names.lookup x=some .local)(B:X.env.scope.names.lookup y=some .local)(T:PA X [a,b] ta)
 (hw:swappedStores [.Tuple [.Name x r,.Name y n] u t] (.Tuple [a,b] z f) X.env=pure (some [x,y]))
 (Q:swapsWithSole [.Tuple [.Name x r,.Name y n] u t] (.Tuple [a,b] z f) N.line X.env=pure false:=by rfl) :
  PS X (.Assign [.Tuple [.Name x r,.Name y n] u t] (.Tuple [a,b] z f) N) (J' i j ta):=by
 intro U s I H D c h;rw[exec_Assign_arm];refine ZU (wpAny_standAt ?_);rw[Q];refine ZU (ZT ?_);rw[ZZ wf];refine ZU (Tuple_ (ah (T _ U s I H _ c h) λJ l V=>?_));obtain⟨vs,Z,I1,L,m⟩:=V;obtain⟨v,w,e1,m⟩:=m;subst e1;obtain⟨k,g,rfl,K,W⟩ : ∃k g,J=[k,g]/\z4 v k/\z4 w g:=by
  cases L with
  |cons p q =>
   cases q with
   |cons O M =>
    cases M;exact⟨_,_,rfl,p,O⟩
 refine wpAny_newObj_type ?_ (by show 2<=sizeLine;decide);have I2:Inv X U I Z { l with heap:=l.heap.push { cls:=.type "tuple",data:=.seq [k,g].toArray } }:=I1.kept (t':=l.toks) λb o e=>aH _ e;rw[hw];refine ZU (ZT ?_);show wpAny (model X.prog X.w) X.A (do rule "assign.swapped-stores"; let d <- unpackItems (.ref l.zs) 2 none;assignInOrder [λv=>bindName X.env y v,λv=>bindName X.env x v] d.reverse;pure Flow.next) _ _ _;refine ZU (wpAny_rule (ZU (unpackItems_tuple (items:=#[k,g]) (c.ok.hd hc) (IsTup.new l.heap _) λh' Y=>?_)));have I3:=I2.kept (h':=h') (t':=l.toks) λb o e=>Y b o (aQ (aK e)) e;show wpAny _ _ (assignInOrder [λv=>bindName X.env y v,λv=>bindName X.env x v] [g,k] >>= λ_=>pure Flow.next) _ _ _;refine ZU (assignInOrder_cons (wpAny_bindName (yG I3 F R (.inl B) W (λs2 I4=>?_) (.inr B))));refine assignInOrder_cons (wpAny_bindName (yG I4 F S (.inl C) K (λs3 G=>assignInOrder_nil (ZT ?_)) (.inr C)));rw[List.set_comm _ _ (Ne.symm P)]at G;exact⟨_,Z,G,m⟩
def JA(i:Nat)(te:TE)(a:l8):TS:=λD I H=>∃x,I[i]?=some (some x)/\te I H λy Z=>a x y Z λz b=>D.nx (I.set i (some z)) b
def Pe{o:l8}(O:X.N.Nodup)(p:X.N[i]?=some x)(j:fA X.env.scope x)(M:PE X e te)(F:p5 X op o)(L:zw X x:=by first|exact .inl rfl|exact .inr rfl|assumption) :
  PS X (.AugAssign (.Name x bo) op e N) (JA i te o):=by
 intro U s I H D a h;obtain⟨v,P,h⟩:=h;obtain⟨m,G,K⟩:=a.loc;have g:kq X.env.scope x:=by rcases j with k|k;exact .inl k;exact .inr (.inl k)
 obtain⟨u,r,l⟩:=K i x v p P g;refine wpAny_AugAssign_Name ?_;have q:wpAny (model X.prog X.w) X.A (eval e X.env) (λw f=>wpAny (model X.prog X.w) X.A (inplaceOp op u w) (λr d=>wpAny (model X.prog X.w) X.A (storeName X.env x r) (λ_=>SP X U D .next) X.xe d) X.xe f) X.xe s:=by
  refine ah (M U s I H _ a h) λw t n=>?_;obtain⟨y,Z,T,C,E⟩:=n;refine ah (F U t I Z v y u w _ T r C E) λz s2 n=>?_;obtain⟨W,V,S,B,q2⟩:=n;exact yG S O p j B (λY R=>⟨_,V,R,q2⟩) L
 rcases l with⟨b,J⟩|⟨b,c,hc,Q⟩
 .exact wpAny_loadName_local a.ok.kind b G J q
 .rcases b with b|b
  .exact wpAny_loadName_cell a.ok.kind b hc Q q
  .rcases j with k|k
   .have:X.env.scope.names.lookup x=some .free:=b;rw[k]at this;cases this
   .have:X.env.scope.names.lookup x=some .free:=b;rw[k]at this;cases this
def r8(f:Int->Int->Int):l8:=λx y H Q=>∃i j,x=.int i/\y=.int j/\Q (.int (f i j)) H
def PU:p5 X .Add (r8 λi j=>i+j):=by
 intro U s I H x y v u Q a c b h;obtain⟨i,j,e,d,q⟩:=h;subst e;subst d;obtain⟨t,rfl⟩:=c;obtain⟨t',rfl⟩:=b;exact iadd_int ⟨.int _,H,a.tok _,⟨_,rfl⟩,q⟩
def OG(c:TT)(e:TS):TS:=λD I H=>∃W:Nat->St->Hp->Prop,(∃m,W m I H)/\∀m I H,W m I H ->
 c I H λb Z=>if b=true then ∃N:St->Hp->Prop,(∀a Y,N a Y->∃d,d<m/\W d a Y)/\e { D with nx:=N,ct:=N,bk:=D.nx } I Z else D.nx I Z
def abW{q:TT}{r:TS}(t:PassesOwn (model X.prog X.w) X.A X.env X.xe)(hc:PT X c q)(G:PSs X body r):PS X (.While c body [] N) (OG q r):=by
 intro U s I H D d h;obtain⟨W,⟨F,B⟩,K⟩:=h;refine wpAny_While (codeAny_whileLoop (λn s'=>∃i Y,Inv X U i Y s'/\W n i Y) ?_ F ⟨I,H,d,B⟩);rintro n E ⟨g,Z,L,z⟩;refine wpAny_passesOwn t (ah (hc U E g Z _ L (K n g Z z)) λb C J=>?_);obtain⟨y,x,q2⟩:=J;cases b with
 |true =>
  obtain⟨a,u,q2⟩:=q2;rw[ZY rfl];refine wpAny_passesOwn t (ah (G U C g y _ x q2) λf M q3=>?_);cases f with
  |next =>
   obtain⟨e,j,p,l⟩:=q3;obtain⟨m,o,k⟩:=u e j l;exact⟨m,o,e,j,p,k⟩
  |cont =>
   obtain⟨e,j,p,l⟩:=q3;obtain⟨m,o,k⟩:=u e j l;exact⟨m,o,e,j,p,k⟩
  |brk=>exact q3
  |ret v=>exact q3
 |false =>
  rw[ZZ bw];exact wpAny_execs_nil ⟨g,y,x,q2⟩
structure It where
 go:Nat->Hp->Prop
 yld:Nat->Hp->V->Hp->Prop
 stop:Nat->Hp->Prop
def JK(X:Cx)(U:Δ)(H:Hp)(b:Addr):Prop :=
 H b=none/\b≠X.env.locals/\b∉X.fs/\(b∈X.ex\/X.s₀.zs<=b)/\(∀x c,X.env.cells.lookup x=some c->c≠b)/\∀p∈X.pn++U,p.1≠b
def Inv.fpOk{X:Cx}(a:Inv X U I H s)(d:s.zs<=b)(g:Y b=none):JK X U Y b:=by
 refine⟨g,UK (aR a.lt d),a.nofs d,.inr (aL a.sz d),λx c e z=>?_,λp f z=>?_⟩
 .obtain⟨v,q⟩:=a.cell x c e;exact absurd (aR q.lt (by rwa[z])) (Wp _)
 .exact absurd (aR (aK (a.pin p f).1) (by rwa[z])) (Wp _)
structure Turn(P:Program)(w:World)(K:Frag)(tg:Expr)(J:It)(fp:Ψ)(it:Addr)(tn:Nat->Heap->Prop):Prop where
 mem:it∈fp
 obj:∀i h,tn i h->∀b∈fp,∃o,h.get? b=some o/\∀v,o.data≠.cell v
 keep:∀i h h',tn i h->(∀b∈fp,∀o,h.get? b=some o->h'.get? b=some o)->tn i h'
 item:∀(X:Cx),X.prog=P->X.w=w->X.K=K->X.calm=true->∀(i:Nat)(U:Δ)(s:Shared)(I:St)(H:Hp)(E:Ε),Inv X U I H s->(∀b∈fp,JK X U H b)->tn i s.heap->J.go i H ->
  wpAny (model P w) X.A (pyNext (.ref it)) (λr s1=>∃u,r=some u /\
   wpAny (model P w) X.A (letOwnedTupleGo tg (.ref it) u) (λ_ s2=>∃x Y,Inv X U I Y s2/\z4 x u/\J.yld i H x Y/\tn (i+1) s2.heap/\∀b∈fp,Y b=none) E s1) E s
 done:∀(X:Cx),X.prog=P->X.w=w->X.K=K->X.calm=true->∀(i:Nat)(U:Δ)(s:Shared)(I:St)(H:Hp)(E:Ε),Inv X U I H s->(∀b∈fp,JK X U H b)->tn i s.heap->J.stop i H ->
  wpAny (model P w) X.A (pyNext (.ref it)) (λr s1=>r=none/\Inv X U I H s1) E s
 self:∀(A:Around)(i:Nat)(s:Shared)(Q:Ε)(E:Ε),tn i s.heap->Q (.ref it) s->wpAny (model P w) A (pyIter (.ref it)) Q E s
abbrev TI:=St->Hp->(It->Hp->Prop)->Prop
def FD(X:Cx)(U:Δ)(I:St)(tg:Expr)(R:It->Hp->Prop)(e:Value)(c:Shared):Prop :=
 ∃(d:Addr)(fp:Ψ)(a:Nat->Heap->Prop)(J:It)(Y:Hp),e=.ref d/\Inv X U I Y c/\Turn X.prog X.w X.K tg J fp d a/\a 0 c.heap/\(∀b∈fp,JK X U Y b)/\R J Y
def PI(X:Cx)(tg iter:Expr)(a:TI):Prop :=
 ∀(U:Δ)(s:Shared)(I:St)(H:Hp)(R:It->Hp->Prop),Inv X U I H s->a I H R ->
  wpAny (model X.prog X.w) X.A (eval iter X.env) (λv b=>wpAny (model X.prog X.w) X.A (pyIter v) (FD X U I tg R) X.xe b) X.xe s
def U0{c:Addr}{n:String}{b:xI}(d:s.heap.get? c=some o)(hc:o.cls=.type n)(hd:o.data=.fields b)
   (e : ["enumerate","zip","dict_itemiterator","dict_reverseitemiterator","odict_iterator","itertools.zip_longest","itertools.pairwise"].contains n=false)(a:Q () s):wpAny M A (letOwnedTupleGo tg (.ref c) u) Q E s:=by
  unfold letOwnedTupleGo;cases tg<;>first
    |exact ZT a
    |(cases u<;>first
        |exact ZT a
        | (refine ZU (wpAny_load d ?_)
           rw[hc,hd];show wpAny M A (if(["enumerate","zip","dict_itemiterator","dict_reverseitemiterator","odict_iterator","itertools.zip_longest","itertools.pairwise"].contains n&&b[0]?==some (rawInt _))=true then _ else _) Q E s;rw[ZZ (by intro h;rw[e,Bool.false_and]at h;cases h)];exact ZT a))
def FI(K:Frag)(a:Addr):It :=
 ⟨λi H=>∃J x,SqL K H a J/\J[i]?=some x,λi H x Y=>Y=H/\∀J,SqL K H a J->J[i]?=some x,λi H=>∃J,SqL K H a J/\J.length<=i⟩
def FH(K:Frag)(a:Addr):It :=
 ⟨λi H=>∃J x,SqT K H a J/\J[i]?=some x,λi H x Y=>Y=H/\∀J,SqT K H a J->J[i]?=some x,λi H=>∃J,SqT K H a J/\J.length<=i⟩
def kG(lo:Int)(n:Nat):It:=⟨λi _=>i<n,λi H x Y=>Y=H/\x=.int (lo+i),λi _=>n<=i⟩
def aaR(a j:Addr):Turn P w K tg (FI K a) [j] j (λi h=>h.IsListIter j a i) where
 mem:=by simp
 obj:=λi h g b l=>by
  have e:b=j:=by simpa using l
  subst e;obtain⟨o,e,c,d⟩:=g;exact⟨o,e,λv z=>by rw[d]at z;cases z⟩
 keep:=λi h h' g k=>g.at λo e=>k j wr o e
 item:=by
  intro X A hw B hc i U s I H E f q g y;subst A hw B;obtain⟨J,x,n,M⟩:=y;obtain⟨t,r,p,R⟩:=f.list n;obtain⟨u,T,Q⟩:=r.get M;obtain⟨L,G,V,F,D,C⟩:=q j wr;refine wpAny_pyNext_list_item g p.isList (x:=u) (by simpa using T) λh' N O=>?_;have Y:Inv X U I H { s with heap:=h' }:=f.turned (t':=s.toks) (λb o l e=>(O.2 b l).trans e) L G F D C;obtain⟨o,e,c,d⟩:=id N;exact⟨u,rfl,U0 (s:={ s with heap:=h' }) e c d wf ⟨x,H,Y,Q,⟨rfl,λys S=>by rwa[f.list_inj S n]⟩,N,λb l=>(q b l).1⟩⟩
 done:=by
  intro X A hw B hc i U s I H E f q g y;subst A hw B;obtain⟨J,n,M⟩:=y;obtain⟨t,r,p,R⟩:=f.list n;obtain⟨L,G,V,F,D,C⟩:=q j wr;have Z:=r.length;exact wpAny_pyNext_list_end (f.ok.hd hc) g p.isList (by simp;lia) λh' W=>⟨rfl,f.turned (t':=s.toks) (λb o l e=>W b o l e) L G F D C⟩
 self:=λ_ _ _ _ _ g h=>wpAny_pyIter_listiter g h
def X_(a l:Addr):Turn P w K tg (FH K a) [l] l (λi h=>h.IsTupleIter l a i) where
 mem:=by simp
 obj:=λi h g b m=>by
  have e:b=l:=by simpa using m
  subst e;obtain⟨o,e,c,d⟩:=g;exact⟨o,e,λv z=>by rw[d]at z;cases z⟩
 keep:=λi h h' g k=>g.at λo e=>k l wr o e
 item:=by
  intro X A hw B hc i U s I H E f r g y;subst A hw B;obtain⟨J,x,q,M⟩:=y;obtain⟨j,t,p,R⟩:=f.tuple q;obtain⟨u,T,Q⟩:=t.get M;obtain⟨L,G,V,F,D,C⟩:=r l wr;refine wpAny_pyNext_tuple_item g (show s.heap.IsTuple a j.toArray from p) (x:=u) (by simpa using T) λh' N O=>?_;have Y:Inv X U I H { s with heap:=h' }:=f.turned (t':=s.toks) (λb o m e=>(O.2 b m).trans e) L G F D C;obtain⟨o,e,c,d⟩:=id N;exact⟨u,rfl,U0 (s:={ s with heap:=h' }) e c d wf ⟨x,H,Y,Q,⟨rfl,λys S=>by rwa[f.tuple_inj S q]⟩,N,λb m=>(r b m).1⟩⟩
 done:=by
  intro X A hw B hc i U s I H E f r g y;subst A hw B;obtain⟨J,q,M⟩:=y;obtain⟨j,t,p,R⟩:=f.tuple q;obtain⟨L,G,V,F,D,C⟩:=r l wr;have Z:=t.length;exact wpAny_pyNext_tuple_end (f.ok.hd hc) g (show s.heap.IsTuple a j.toArray from p) (by simp;lia) λh' W=>⟨rfl,f.turned (t':=s.toks) (λb o m e=>W b o m e) L G F D C⟩
 self:=λ_ _ _ _ _ g h=>wpAny_pyIter_tupleiter g h
def Xa(d:Addr)(lo:Int)(n:Nat):Turn P w K tg (kG lo n) [d] d (λi h=>IsRangeIter h d (lo+(i:Nat)*1) ((n:Int)-(i:Nat)) 1) where
 mem:=by simp
 obj:=λi h c b f=>by
  have e:b=d:=by simpa using f
  subst e;exact⟨_,c,λv z=>by
   have C:Data.fields _=Data.cell v:=z;cases C⟩
 keep:=λi h h' c k=>k d wr _ c
 item:=by
  intro X m hw p hc i U s I H E a j c l;subst m hw p;obtain⟨y,x,G,u,r,q⟩:=j d wr;have W:=Walks.range (prog:=X.prog) (w:=X.w) (a.ok.hd hc) d lo 1 n;refine W.item i s _ _ l c λv h' A F B D=>?_;obtain⟨t,rfl⟩:=F;have L:Inv X U I H { s with heap:=h',toks:=A }:=a.turned (λb o f e=>D b o (by simpa using f) e) y x u r q;refine⟨_,rfl,U0 (s:={ s with heap:=h',toks:=A }) (n:="range_iterator") B rfl rfl wf ⟨.int (lo+i),H,L,⟨t,?_⟩,⟨rfl,rfl⟩,B,λb f=>(j b f).1⟩⟩;rw[T1]
 done:=by
  intro X m hw p hc i U s I H E a j c l;subst m hw p;obtain⟨y,x,G,u,r,q⟩:=j d wr;exact wpAny_pyNext_range_end (a.ok.hd hc) c (by have:n<=i:=l;lia) λh' J=>⟨rfl,a.turned (t':=s.toks) (λb o f e=>J b o f e) y x u r q⟩
 self:=λ_ _ _ _ _ c h=>wpAny_pyIter_rangeiter c h
def L3(K:Frag)(b:TE):TI:=λI H R=>b I H λx Z=>∃a,x=.ref a/\(∃J,SqL K Z a J)/\R (FI K a) Z
def II(K:Frag)(b:TE):TI:=λI H R=>b I H λx Z=>∃a,x=.ref a/\(∃J,SqT K Z a J)/\R (FH K a) Z
def WC{l:Expr}{g:TE}(n:PE X l g):PI X tg l (L3 X.K g):=by
 intro U s I H R c h;refine ah (n U s I H _ c h) λv d t=>?_;obtain⟨x,Z,f,i,j⟩:=t;obtain⟨a,e,⟨J,m⟩,q⟩:=j;subst e;cases i;obtain⟨k,u,p,w⟩:=f.list m;refine wpAny_pyIter_list p.isList ?_;refine⟨d.zs,[d.zs],_,_,Z,rfl,f.kept (t':=d.toks) λb o e=>aH _ e,aaR a _,⟨_,aW _ rfl,rfl,rfl⟩,λb r=>?_,q⟩;have e:b=d.zs:=by simpa using r
 subst e;exact f.fpOk (aG _) (f.hok.fresh (aG _))
def R1{l:Expr}{i:TE}(n:PE X l i):PI X tg l (II X.K i):=by
 intro U s I H R c h;refine ah (n U s I H _ c h) λv d t=>?_;obtain⟨x,Z,f,j,k⟩:=t;obtain⟨a,e,⟨J,m⟩,q⟩:=k;subst e;cases j;obtain⟨g,u,p,w⟩:=f.tuple m;refine wpAny_pyIter_tuple (show d.heap.IsTuple a g.toArray from p) ?_;refine⟨d.zs,[d.zs],_,_,Z,rfl,f.kept (t':=d.toks) λb o e=>aH _ e,X_ a _,⟨_,aW _ rfl,rfl,rfl⟩,λb r=>?_,q⟩;have e:b=d.zs:=by simpa using r
 subst e;exact f.fpOk (aG _) (f.hok.fresh (aG _))
def Ve{R:It->Hp->Prop}{lo c:Int}{t u v:Tok}{f:Nat}(a:Inv X U I H s)(l : -(2^62)<=lo)(k:lo<2^62)(j : -(2^62)<=c)(i:c<2^62)
 (q:R (kG lo (c-lo).toNat) H):wpAny (model X.prog X.w) X.A (pyIter (.ref s.zs)) (FD X U I tg R) E { s with heap:=s.heap.push { cls:=.type "range",data:=.fields #[.int lo t,.int c u,.int 1 v] },toks:=f }:=by
 refine wpAny_pyIter_range (IsRange.new ..) (small_one l k j i) ?_;have g:Inv X U I H { s with heap:=s.heap.push { cls:=.type "range",data:=.fields #[.int lo t,.int c u,.int 1 v] },toks:=f }:=a.kept λb o e=>aH _ e;refine⟨(s.heap.push { cls:=.type "range",data:=.fields #[.int lo t,.int c u,.int 1 v] }).objs.size,[(s.heap.push { cls:=.type "range",data:=.fields #[.int lo t,.int c u,.int 1 v] }).objs.size],_,_,H,rfl,
  g.kept (t':=f) λb o e=>aH _ e,Xa _ lo (c-lo).toNat,?_,λb h=>?_,q⟩
 .have n:lo+((0:Nat):Int)*1=lo:=by simp
  have m:(((c-lo).toNat:Nat):Int)-((0:Nat):Int)=Builtin.Range.rangeSize lo c 1:=by rw[rangeSize_one];split<;>lia
  show IsRangeIter _ _ (lo+((0:Nat):Int)*1) ((((c-lo).toNat:Nat):Int)-((0:Nat):Int)) 1;rw[n,m];exact aW _ rfl
 .have e:b=(s.heap.push { cls:=.type "range",data:=.fields #[.int lo t,.int c u,.int 1 v] }).objs.size:=by simpa using h
  subst e;exact g.fpOk (aG _) (g.hok.fresh (aG _))
def MA(ta:TA):TI:=λI H R=>ta I H λa Z=>∃j:Int,a=[.int j]/\-(2^62)<=j/\j<2^62/\R (kG 0 j.toNat) Z
def NE(ta:TA):TI:=λI H R=>ta I H λa Z=>∃i j:Int,a=[.int i,.int j]/\(-(2^62)<=i/\i<2^62/\-(2^62)<=j/\j<2^62)/\R (kG i (j-i).toNat) Z
def aaC(k:Gl X "range")(i:X.mg "range"=none)(l:PA X [a] ta)(g:starEach [a] X.env=[(false,eval a X.env)]:=by rfl):PI X tg (.Call (.Name "range" p) [a] [] N) (MA ta):=by
 intro U s I H R b h;refine Call_ (Di b k i boot_range (PyProof.Rows.callWith_type1 (ah (l N U s I H _ b h) λu v m=>?_) g rfl));obtain⟨o,Z,n,f,c⟩:=m;obtain⟨j,e,c,q2,q⟩:=c;subst e;cases f with
 |cons r d =>
  cases d;obtain⟨t,rfl⟩:=r;exact call_range_1 (Ve n (XY wf) (QY wf) c q2 (by simpa using q))
def aaY{b:Expr}(u:Gl X "range")(o:X.mg "range"=none)(v:PA X [a,b] ta)(n:starEach [a,b] X.env=[(false,eval a X.env),(false,eval b X.env)]:=by rfl)(g:starEach [b] X.env=[(false,eval b X.env)]:=by rfl) :
  PI X tg (.Call (.Name "range" p) [a,b] [] N) (NE ta):=by
 intro U s I H R c h;refine Call_ (Di c u o boot_range (PyProof.Rows.callWith_type1 (ah (v N U s I H _ c h) λz A w=>?_) (by rw[n,g]) (by rw[g];rfl)));obtain⟨y,Z,x,k,f⟩:=w;obtain⟨i,j,e,⟨f,q2,q3,m⟩,q⟩:=f;subst e;cases k with
 |cons r d =>
  cases d with
  |cons l d =>
   cases d;obtain⟨t,rfl⟩:=r;obtain⟨t',rfl⟩:=l;exact call_range_2 (Ve x f q2 q3 m q)
def Hb(d:TI)(g:TG)(e:TS):TS:=λD I H=>d I H λJ Z=>∃W:Nat->Nat->St->Hp->Prop,(∃m,W 0 m I Z)/\∀i m I H,W i m I H ->
 (J.stop i H/\D.nx I H)\/(J.go i H/\∃N:St->Hp->Prop,(∀a Y,N a Y->∃c,c<m/\W (i+1) c a Y)/\∀x Y,J.yld i H x Y->g x I Y λb f=>e { D with nx:=N,ct:=N,bk:=D.nx } b f)
def Nm(fp:Ψ)(h:Heap):Δ:=fp.filterMap λb=>(h.get? b).map λo=>(b,o)
def sY(a:b∈fp)(e:h.get? b=some o):(b,o)∈Nm fp h:=List.mem_filterMap.mpr ⟨b,a,by rw[e];rfl⟩
def aa8{p:Addr×Obj}(a:p∈Nm fp h):p.1∈fp/\h.get? p.1=some p.2:=by
 obtain⟨b,c,e⟩:=List.mem_filterMap.mp a;cases q:h.get? b with
 |none=>rw[q]at e;cases e
 |some o =>
  rw[q]at e;have d:(b,o)=p:=Option.some.inj e;subst d;exact⟨c,q⟩
def Inv.pinned(a:Inv X U I H s)(i:∀b∈fp,JK X U H b)(h:∀b∈fp,∃o,s.heap.get? b=some o/\∀v,o.data≠.cell v):Inv X (U++Nm fp s.heap) I H s :=
 a.pins_of λp g=>(Y1.mp g).elim (λz=>a.pin p (aP _ z)) λz=>by
  obtain⟨c,e⟩:=aa8 z;obtain⟨l,k,j,_⟩:=i p.1 c;obtain⟨o,f,d⟩:=h p.1 c;rw[e]at f;cases f;exact⟨e,l,k,j,d⟩
def Inv.unpinned{b:Δ}(a:Inv X (U++b) I H s):Inv X U I H s:=a.pins_of λp c=>a.pin p (aP _ (U2 _ c))
abbrev zg(X:Cx)(a:Expr):Prop:=∀z,foldedSetIterable a X.env z=pure z
def Pv{iter:Expr}{S:TI}{g:TG}{Z:TS}(E:PassesOwn (model X.prog X.w) X.A X.env X.xe)(hc:X.calm)(hi:PI X tg iter S)(hg:PG X tg g)(p:PSs X body Z)
 (hs:zg X iter:=by intro _;rfl):PS X (.For tg iter body [] N) (Hb S g Z):=by
 intro U s I H D c h;refine wpAny_For (ah (hi U s I H _ c h) λv s1 h1=>ah h1 λnL s2 h2=>?_) hs;obtain⟨it,fp,V,J,H2,e,I2,T,g6,f2,W,⟨m0,w0⟩,fN⟩:=h2;subst e

 have O:∀{Y:Hp},(∀b∈fp,Y b=none)->∀b∈fp,JK X U Y b:=λhn b p=>⟨hn b p,(f2 b p).2⟩;refine codeAny_forLoop_any (λn s'=>∃i l Y,Inv X U l Y s'/\V i s'.heap/\(∀b∈fp,Y b=none)/\W i n l Y) ?_ m0 ⟨0,I,H2,I2,g6,λb p=>(f2 b p).1,w0⟩;rintro n s3 ⟨i,k,G,I3,i7,F,w3⟩;rcases fN i n k G w3 with⟨B,qn⟩|⟨go,a,hN,step⟩
 .refine wpAny_passesOwn E (ah (T.done X rfl rfl rfl hc i U s3 k G X.xe I3 (O F) i7 B) λr s4 z=>?_);obtain⟨P,I4⟩:=z;subst P;exact wpAny_execs_nil ⟨k,G,I4,qn⟩
 .refine wpAny_passesOwn E (ah (T.item X rfl rfl rfl hc i U s3 k G X.xe I3 (O F) i7 go) λr s4 z=>?_);obtain⟨u,P,h4⟩:=z;subst P;refine wpAny_passesOwn E (ah h4 λ_ s5 z=>?_);obtain⟨x,H5,I5,r5,y5,M,Q⟩:=z;have R:=I5.pinned (O Q) (T.obj _ _ M);refine wpAny_passesOwn E (ah (hg _ s5 k H5 x u _ R r5 (step x H5 y5)) λ_ s6 z=>?_);obtain⟨K,H6,I6,q6⟩:=z;refine wpAny_passesOwn E (ah (p _ s6 K H6 _ I6 q6) λf L y=>?_);have again:∀{j:St}{t:Hp},Inv X (U++Nm fp s5.heap) j t L->a j t->∃m,m<n/\∃i l Y,Inv X U l Y L/\V i L.heap/\(∀b∈fp,Y b=none)/\W i m l Y:=λ{j t}q C=>by
   obtain⟨m',hm,w7⟩:=hN j t C;refine⟨m',hm,i+1,j,t,q.unpinned,T.keep _ _ _ M λb p o e=>(q.pin (b,o) (aP _ (aP _ (sY p e)))).1,λb p=>?_,w7⟩;obtain⟨o,e,d⟩:=T.obj _ _ M b p;exact(q.pin (b,o) (aP _ (aP _ (sY p e)))).2.1
  cases f with
  |next=>obtain⟨j,t,q,C⟩:=y;exact again q C
  |cont=>obtain⟨j,t,q,C⟩:=y;exact again q C
  |brk=>obtain⟨j,t,q,y⟩:=y;exact⟨j,t,q.unpinned,y⟩
  |ret v=>obtain⟨x7,j,t,q,r7,y⟩:=y;exact⟨x7,j,t,q.unpinned,r7,y⟩
abbrev R2:=V->V->Hp->VK->Prop
def OpR(X:Cx)(f:Value->Value->Sem Value)(r:R2):Prop :=
 ∀(U:Δ)(s:Shared)(I:St)(H:Hp)(x y:V)(v u:Value)(Q:VK),Inv X U I H s->z4 x v->z4 y u->r x y H Q ->
  wpAny (model X.prog X.w) X.A (f v u) (EP X U I Q) X.xe s
def p0(X:Cx)(f:Value->Sem Value)(r:V->Hp->VK->Prop):Prop :=
 ∀(U:Δ)(s:Shared)(I:St)(H:Hp)(x:V)(v:Value)(Q:VK),Inv X U I H s->z4 x v->r x H Q ->
  wpAny (model X.prog X.w) X.A (f v) (EP X U I Q) X.xe s
def kW(X:Cx)(f:Value)(r:Ζ->Hp->VK->Prop):Prop :=
 ∀(U:Δ)(s:Shared)(I:St)(H:Hp)(J:Ζ)(a:Θ)(Q:VK),Inv X U I H s->z5 J a->r J H Q ->
  wpAny (model X.prog X.w) X.A (call f a) (EP X U I Q) X.xe s
def Hm(X:Cx)(r:V->Hp->(Bool->Hp->Prop)->Prop):Prop :=
 ∀(U:Δ)(s:Shared)(I:St)(H:Hp)(x:V)(v:Value)(Q:Bool->Hp->Prop),Inv X U I H s->z4 x v->r x H Q ->
  wpAny (model X.prog X.w) X.A (truthy v) (TP X U I Q) X.xe s
def ip(r:R2)(ta a:TE):TE:=λI H Q=>ta I H λx Z=>a I Z λy b=>r x y b Q
def FX(r:V->Hp->VK->Prop)(ta:TE):TE:=λI H Q=>ta I H λx Z=>r x Z Q
def rI(C:Int->Int->Prop)(g:Int->Int->V):R2:=λx y H Q=>∃i j,x=.int i/\y=.int j/\C i j/\Q (g i j) H
def gc(g:Int->Int->V):R2:=λx y H Q=>∃i j,x=.int i/\y=.int j/\Q (g i j) H
def rU(g:Int->V):V->Hp->VK->Prop:=λx H Q=>∃i,x=.int i/\Q (g i) H
variable{b:Expr}{ta tb:TE}{f:Value->Value->Sem Value}{r:R2}{v:Value}{g:Int->Int->Int}
def oa(q:PE X a ta)(p:PE X b tb){R:V->V->Hp->Prop}(c:Inv X U I H s)
 (h:ta I H λx Z=>tb I Z λy d=>R x y d){Q:Ε}
 (o:∀v u i x y d,Inv X U I d i->z4 x v->z4 y u->R x y d->wpAny (model X.prog X.w) X.A (f v u) Q X.xe i) :
  wpAny (model X.prog X.w) X.A (eval a X.env) (λv g=>wpAny (model X.prog X.w) X.A (eval b X.env) (λu e=>wpAny (model X.prog X.w) X.A (f v u) Q X.xe e) X.xe g) X.xe s:=by
 refine ah (q U s I H _ c h) λv k j=>?_;obtain⟨x,Z,t,m,n⟩:=j;refine ah (p U k I Z _ t n) λu i j=>?_;obtain⟨y,d,r,l,q2⟩:=j;exact o v u i x y d r m l q2
def MC(g:OpR X (binaryOp op) r)(j:PE X a ta)(i:PE X b tb):PE X (.BinOp a op b N) (ip r ta tb):=by
 intro U s I H Q c h;exact wpAny_BinOp (oa j i c h λv u d x y l k f e q=>g U d I l x y v u Q k f e q)
def MZ{op:UnaryOp}{r:V->Hp->VK->Prop}(f:p0 X (unaryOp op) r)(g:PE X a ta):PE X (.UnaryOp op a N) (FX r ta):=by
 intro U s I H Q b h;exact UnaryOp_ (ah (g U s I H _ b h) λv c i=>by obtain⟨x,Z,j,d,e⟩:=i;exact f U c I Z x v Q j d e)
def EY(d:OpR X (inplaceOp op) r){x y:V}{Q:VK}(a:Inv X U I H s)
 (c:z4 x v)(b:z4 y u)(q:r x y H Q):wpAny (model X.prog X.w) X.A (inplaceOp op v u) (EP X U I Q) X.xe s:=d U s I H x y v u Q a c b q
def iR{C:Int->Int->Prop}
 (rule:∀(i j:Int)(t u:Tok)(s:Shared)(Q:Ε)(E:Ε),C i j->Q (.int (g i j) s.toks) { s with toks:=s.toks+1 }->wpAny (model X.prog X.w) X.A (f (.int i t) (.int j u)) Q E s) :
  OpR X f (rI C λi j=>.int (g i j)):=by
 intro U s I H x y v u Q a d c h;obtain⟨i,j,rfl,rfl,e,q⟩:=h;obtain⟨t,rfl⟩:=d;obtain⟨t',rfl⟩:=c;exact rule i j t t' s _ _ e ⟨.int (g i j),H,a.tok _,⟨_,rfl⟩,q⟩
def x4
 (rule:∀(i j:Int)(t u:Tok)(s:Shared)(Q:Ε)(E:Ε),Q (.int (g i j) s.toks) { s with toks:=s.toks+1 }->wpAny (model X.prog X.w) X.A (f (.int i t) (.int j u)) Q E s) :
  OpR X f (gc λi j=>.int (g i j)):=by
 intro U s I H x y v u Q a d c h;obtain⟨i,j,rfl,rfl,q⟩:=h;obtain⟨t,rfl⟩:=d;obtain⟨t',rfl⟩:=c;exact rule i j t t' s _ _ ⟨.int (g i j),H,a.tok _,⟨_,rfl⟩,q⟩
def ls{g:Int->Int->Bool}
 (rule:∀(i j:Int)(t u:Tok)(s:Shared)(Q:Ε)(E:Ε),Q (.bool (g i j)) s->wpAny (model X.prog X.w) X.A (f (.int i t) (.int j u)) Q E s) :
  OpR X f (gc λi j=>.bl (g i j)):=by
 intro U s I H x y v u Q a c b h;obtain⟨i,j,rfl,rfl,q⟩:=h;obtain⟨t,rfl⟩:=c;obtain⟨t',rfl⟩:=b;exact rule i j t t' s _ _ ⟨.bl (g i j),H,a,rfl,q⟩
def sD(i j:Int):Prop:=0<=j/\j<=1000000/\i.natAbs<2^64
def afC(i j:Int):Prop:=(-(2^64)<i/\i<2^64)\/(-(2^64)<j/\j<2^64)
def afC.ok{i j:Int}(h:afC i j):IntMulOk i j:=by
 rcases h with⟨b,a⟩|⟨b,a⟩
 .exact .of_left (intBits_le_64 b a)
 .exact .of_right (intBits_le_64 b a)
def RR:OpR X (binaryOp .Add) (gc λi j=>.int (i+j)):=x4 λ_ _ _ _ _ _ _ q=>add_int q
def P8:OpR X (binaryOp .Sub) (gc λi j=>.int (i-j)):=x4 λ_ _ _ _ _ _ _ q=>sub_int q
def SL:OpR X (binaryOp .Mult) (rI afC λi j=>.int (i*j)):=iR λ_ _ _ _ _ _ _ a q=>mul_int q a.ok
def PD:OpR X (binaryOp .Mod) (rI (λ_ j=>0<j) λi j=>.int (i%j)):=iR λi j _ _ _ _ _ a q=>by
 have b:(0:Int)<j:=a;exact mod_int' (WP a) (by rw[Int.fmod_eq_emod_of_nonneg i (XY a)];exact q)
def N9:OpR X (binaryOp .Pow) (rI sD λi j=>.int (i^j.toNat)):=iR λ_ _ _ _ _ _ _ a q=>pow_int_small a.1 a.2.1 a.2.2 q
def FS{f:Value->Sem Value}{g:Int->Int}
 (rule:∀(i:Int)(t:Tok)(s:Shared)(Q:Ε)(E:Ε),Q (.int (g i) s.toks) { s with toks:=s.toks+1 }->wpAny (model X.prog X.w) X.A (f (.int i t)) Q E s) :
  p0 X f (rU λi=>.int (g i)):=by
 intro U s I H x v Q a c h;obtain⟨i,rfl,q⟩:=h;obtain⟨t,rfl⟩:=c;exact rule i t s _ _ ⟨.int (g i),H,a.tok _,⟨_,rfl⟩,q⟩
def SV:p0 X (unaryOp .USub) (rU λi=>.int (-i)):=FS λ_ _ _ _ _ q=>neg_int q
def jl:V->V->Bool
 |.non,.non=>true|.non,.int _=>true|.int _,.non=>true|.non,.bl _=>true|.bl _,.non=>true|.non,.str _=>true|.str _,.non=>true
 |.int _,.int _=>true|.bl _,.bl _=>true|.str _,.str _=>true|.byt _,.byt _=>true
 |.int _,.str _=>true|.str _,.int _=>true|.bl _,.str _=>true|.str _,.bl _=>true
 |_,_=>false
def GG:R2:=λx y H Q=>jl x y=true/\Q (.bl (decide (x=y))) H
def GA:R2:=λx y H Q=>jl x y=true/\Q (.bl (!decide (x=y))) H
def Fk{i j:Int} : decide (V.int i=V.int j)=(i==j):=by
 rw[Bool.eq_iff_iff];simp
def EJ{i j:Bool} : decide (V.bl i=V.bl j)=(i==j):=by
 rw[Bool.eq_iff_iff];simp
def Y6{i j:Str} : decide (V.str i=V.str j)=(i==j):=by
 rw[Bool.eq_iff_iff];simp
def Z1{i j:Array UInt8} : decide (V.byt i=V.byt j)=(i.toList==j.toList):=by
 rw[Bool.eq_iff_iff];cases i;cases j;simp
def dG{Q:VK}{k b:Bool}(a:Inv X U I H s)(q:Q (.bl k) H)(e:k=b):EP X U I Q (.bool b) s:=by
 subst e;exact⟨.bl k,H,a,rfl,q⟩
def MX:OpR X (compareOp .Eq) GG:=by
 intro U s I H x y v u Q a d b h;obtain⟨c,q⟩:=h;cases x with
 |non =>
  cases d;cases y with
  |non=>cases b;exact PySem.EqNone.eq_none_none (dG a q wr)
  |bl j=>cases b;exact PySem.EqNone.eq_none_bool (dG a q wr)
  |int j=>obtain⟨t',rfl⟩:=b;exact PySem.EqNone.eq_none_int (dG a q wr)
  |str j=>obtain⟨t',rfl⟩:=b;exact PySem.EqNone.eq_none_str (dG a q wr)
  |_=>exact absurd (show false=true from c) bw
 |bl i =>
  cases d;cases y with
  |non=>cases b;exact PySem.EqNone.eq_bool_none (dG a q wr)
  |bl j=>cases b;exact eq_bool (dG a q EJ)
  |str j=>obtain⟨t',rfl⟩:=b;exact PySem.EqMixed.eq_bool_str (dG a q wr)
  |_=>exact absurd (show false=true from c) bw
 |int i =>
  obtain⟨t,rfl⟩:=d;cases y with
  |non=>cases b;exact PySem.EqNone.eq_int_none (dG a q wr)
  |int j=>obtain⟨t',rfl⟩:=b;exact eq_int (dG a q Fk)
  |str j=>obtain⟨t',rfl⟩:=b;exact PySem.EqMixed.eq_int_str (dG a q wr)
  |_=>exact absurd (show false=true from c) bw
 |str i =>
  obtain⟨t,rfl⟩:=d;cases y with
  |non=>cases b;exact PySem.EqNone.eq_str_none (dG a q wr)
  |bl j=>cases b;exact PySem.EqMixed.eq_str_bool (dG a q wr)
  |int j=>obtain⟨t',rfl⟩:=b;exact PySem.EqMixed.eq_str_int (dG a q wr)
  |str j=>obtain⟨t',rfl⟩:=b;exact eq_str (dG a q Y6)
  |_=>exact absurd (show false=true from c) bw
 |byt i =>
  obtain⟨t,rfl⟩:=d;cases y with
  |byt j=>obtain⟨t',rfl⟩:=b;exact PySem.W.eq_bytes (dG a q Z1)
  |_=>exact absurd (show false=true from c) bw
 |_=>cases y<;>exact absurd (show false=true from c) bw
def L6:OpR X (compareOp .NotEq) GA:=by
 intro U s I H x y v u Q a d b h;obtain⟨c,q⟩:=h;cases x with
 |non =>
  cases d;cases y with
  |non=>cases b;exact PySem.EqNone.ne_none_none (dG a q wr)
  |bl j=>cases b;exact PySem.EqNone.ne_none_bool (dG a q wr)
  |int j=>obtain⟨t',rfl⟩:=b;exact PySem.EqNone.ne_none_int (dG a q wr)
  |str j=>obtain⟨t',rfl⟩:=b;exact PySem.EqNone.ne_none_str (dG a q wr)
  |_=>exact absurd (show false=true from c) bw
 |bl i =>
  cases d;cases y with
  |non=>cases b;exact PySem.EqNone.ne_bool_none (dG a q wr)
  |bl j=>cases b;exact ne_bool (dG a q (ZH not EJ))
  |str j=>obtain⟨t',rfl⟩:=b;exact PySem.EqMixed.ne_bool_str (dG a q wr)
  |_=>exact absurd (show false=true from c) bw
 |int i =>
  obtain⟨t,rfl⟩:=d;cases y with
  |non=>cases b;exact PySem.EqNone.ne_int_none (dG a q wr)
  |int j=>obtain⟨t',rfl⟩:=b;exact ne_int (dG a q (ZH not Fk))
  |str j=>obtain⟨t',rfl⟩:=b;exact PySem.EqMixed.ne_int_str (dG a q wr)
  |_=>exact absurd (show false=true from c) bw
 |str i =>
  obtain⟨t,rfl⟩:=d;cases y with
  |non=>cases b;exact PySem.EqNone.ne_str_none (dG a q wr)
  |bl j=>cases b;exact PySem.EqMixed.ne_str_bool (dG a q wr)
  |int j=>obtain⟨t',rfl⟩:=b;exact PySem.EqMixed.ne_str_int (dG a q wr)
  |str j=>obtain⟨t',rfl⟩:=b;exact ne_str (dG a q (ZH not Y6))
  |_=>exact absurd (show false=true from c) bw
 |byt i =>
  obtain⟨t,rfl⟩:=d;cases y with
  |byt j=>obtain⟨t',rfl⟩:=b;exact PySem.W.ne_bytes (dG a q (ZH not Z1))
  |_=>exact absurd (show false=true from c) bw
 |_=>cases y<;>exact absurd (show false=true from c) bw
def ND:OpR X (compareOp .Lt) (gc λi j=>.bl (decide (i<j))):=ls λ_ _ _ _ _ _ _ q=>lt_int q
def OL:OpR X (compareOp .LtE) (gc λi j=>.bl (decide (i<=j))):=ls λ_ _ _ _ _ _ _ q=>le_int q
def Mo:OpR X (compareOp .Gt) (gc λi j=>.bl (decide (j<i))):=ls λ_ _ _ _ _ _ _ q=>gt_int q
def MB:OpR X (compareOp .GtE) (gc λi j=>.bl (decide (j<=i))):=ls λ_ _ _ _ _ _ _ q=>ge_int q
def PM:OpR X (compareOp .Is) (λx y H Q=>y=.non/\Q (.bl (decide (x=.non))) H):=by
 intro U s I H x y v u Q a b c h;obtain⟨rfl,q⟩:=h;cases c;refine is_none_gen (dG a q ?_);cases x<;>first
  |(cases b;rfl)
  |(obtain⟨t,rfl⟩:=b;rfl)
def Tb:OpR X (compareOp .IsNot) (λx y H Q=>y=.non/\Q (.bl (!decide (x=.non))) H):=by
 intro U s I H x y v u Q a b c h;obtain⟨rfl,q⟩:=h;cases c;refine isnot_none_gen (dG a q ?_);cases x<;>first
  |(cases b;rfl)
  |(obtain⟨t,rfl⟩:=b;rfl)
variable{op:CmpOp}{tc:TE}{us:Θ}{dx x C f:Addr}{mA:Str->Ω}{prog:Program}{name:Str}{pl:Sem Bool}{kw:xh}
def EH(b:Expr)(h:op≠.In:=by decide)(a:op≠.NotIn:=by decide):behindInMarks op b=false:=by
 have d:(op==CmpOp.In)=false:=by cases op<;>first|rfl|exact absurd rfl h
 have c:(op==CmpOp.NotIn)=false:=by cases op<;>first|rfl|exact absurd rfl a
 cases b<;>simp[behindInMarks,d,c]
def _N(g:OpR X (compareOp op) r)(k:PE X a ta)(j:PE X b tb)(i:behindInMarks op b=false):PE X (.Compare a [op] [b] N) (ip r ta tb):=by
 intro U s I H Q c h;exact wpAny_Compare1 (oa k j c h λv u d x y m l f e q=>g U d I m x y v u Q l f e q) i
def C8(t:TE):TT:=λI H Q=>t I H λx Y=>∃k,x=.bl k/\Q k Y
def S4(n:OpR X (compareOp op) r)(q:PE X a ta)(p:PE X b tb)(o:behindInMarks op b=false):PT X (.Compare a [op] [b] N) (C8 (ip r ta tb)):=by
 intro U s I H Q d h;refine wpAny_isTrue_Compare1 (ah (q U s I H _ d h) λv g ⟨x,Z,A,l,m⟩=>ah (p U g I Z _ A m) λu f ⟨y,C,w,j,q2⟩ =>
  ah (n U f I C x y v u _ w l j q2) λc D ⟨z,B,t,i,k,e,q3⟩=>?_) o
 subst e;cases i;exact wpAny_truthy_bool ⟨B,t,q3⟩
def Yk(r c:R2)(ta tb tc:TE):TE:=λI H Q=>ta I H λx Z=>tb I Z λy e=>r x y e λz a=>∃k,z=.bl k /\
 (if k=true then tc I a λb d=>c y b d Q else Q (.bl false) a)
def acv{g:CmpOp}{j:R2}(F:OpR X (compareOp op) r)(M:OpR X (compareOp g) j)(K:PE X a ta)(J:PE X b tb)(hc:PE X c tc)
 (G:lastMarks [op,g] [b,c]=false:=by with_unfolding_all rfl):PE X (.Compare a [op,g] [b,c] N) (Yk r j ta tb tc):=by
 intro U s I H Q f h;refine Compare_chain (ah (K U s I H _ f h) λv w ⟨x,Z,R,C,E⟩=>chain_link (ah (J U w I Z _ R E) λu t ⟨y,T,P,i,q2⟩ =>
  ah (F U t I T x y v u _ P C i q2) λd q ⟨z,m,l,B,k,e,q3⟩=>?_)) G
 subst e;cases B;refine wpAny_truthy_bool ?_;cases k with
 |false=>exact ite_ff ⟨.bl false,m,l,rfl,q3⟩
 |true=>exact ite_tt (chain_last (ah (hc U q I m _ l q3) λo p L=>by obtain⟨n,S,O,A,D⟩:=L;exact M U p I S y n u o Q O i A D))
def adU{g:CmpOp}{j:R2}(K:OpR X (compareOp op) r)(T:OpR X (compareOp g) j)(O:PE X a ta)(M:PE X b tb)(hc:PE X c tc)
 (L:lastMarks [op,g] [b,c]=false:=by with_unfolding_all rfl):PT X (.Compare a [op,g] [b,c] N) (C8 (Yk r j ta tb tc)):=by
 intro U s I H Q f h;refine isTrue_chain (ah (O U s I H _ f h) λv w ⟨x,Z,I1,D,G⟩=>test_link (ah (M U w I Z _ I1 G) λu t ⟨y,H2,Y,i,q2⟩ =>
  ah (K U t I H2 x y v u _ Y D i q2) λd q ⟨z,m,l,C,k,e,q3⟩=>?_)) L
 subst e;cases C;refine wpAny_truthy_bool ?_;cases k with
 |false =>
  obtain⟨k',S,J⟩:=q3;cases S;exact ite_ff ⟨m,l,J⟩
 |true =>
  refine ite_tt (test_last (ah (hc U q I m _ l q3) λo p ⟨n,H4,W,B,F⟩=>ah (T U p I H4 y n u o _ W i B F) λd' s5 P=>?_));obtain⟨z2,H5,V,A,k2,R,E⟩:=P;subst R;cases A;exact wpAny_truthy_bool ⟨H5,V,E⟩
def t9(K:Frag)(x:V)(H:Hp)(k:Bool):Prop :=
 match x with
 |.non=>k=false
 |.bl b=>k=b
 |.int i=>k=(i != 0)
 |.str y=>y.length<=sizeLine/\k=((y.length:Int) != 0)
 |.byt y=>y.size<=sizeLine/\k=((y.size:Int) != 0)
 |.ref p=>(∃J,SqL K H p J/\k = !J.isEmpty)\/(∃J,SqT K H p J/\k = !J.isEmpty)\/∃a,H p=some (.dK a)/\k = !a.isEmpty
 |_=>False
def YD{b:Type}{a:List (b×V)}{c:List (b×Value)}(r:KV a c):(!c.isEmpty) = !a.isEmpty:=by
 cases r<;>rfl
def Kz{a:Θ}(r:z5 J a):(!a.toArray.isEmpty) = !J.isEmpty:=by
 cases r<;>simp
def zU:(sizeLine:Nat)<2^63:=by rw[sizeLine_eq];decide
def PP:Hm X (λx H Q=>∃k,t9 X.K x H k/\Q k H):=by
 intro U s I H x v Q a f h;obtain⟨k,e,q⟩:=h;have B:=zU;have A:sizeLine=16777216:=sizeLine_eq;cases x with
 |non =>
  cases f;have c:k=false:=e;subst c;exact truthy_none ⟨H,a,q⟩
 |bl b =>
  cases f;have c:k=b:=e;subst c;exact wpAny_truthy_bool ⟨H,a,q⟩
 |int i =>
  obtain⟨t,rfl⟩:=f;have c:k=(i != 0):=e;subst c;exact PySem.P.truthy_int ⟨H,a,q⟩
 |str y =>
  obtain⟨t,rfl⟩:=f;obtain⟨o,c⟩ : y.length<=sizeLine/\k=((y.length:Int) != 0):=e;subst c;exact PySem.P.truthy_str wp ⟨H,a.tok _,q⟩
 |byt y =>
  obtain⟨t,rfl⟩:=f;obtain⟨o,c⟩ : y.size<=sizeLine/\k=((y.size:Int) != 0):=e;subst c;exact PySem.W.truthy_bytes (aL o wf) ⟨H,a.tok _,q⟩
 |ref p =>
  cases f;have c:(∃J,SqL X.K H p J/\k = !J.isEmpty)\/(∃J,SqT X.K H p J/\k = !J.isEmpty)\/∃d,H p=some (.dK d)/\k = !d.isEmpty:=e;rcases c with⟨J,g,c⟩|⟨J,g,c⟩|⟨d,g,c⟩
  .subst c;obtain⟨l,r,pl,n⟩:=a.list g;have u:=r.length;exact wpAny_truthy_list pl.isList (by simp only[aX];lia) ⟨H,a.tok _,by rw[Kz r];exact q⟩
  .subst c;obtain⟨l,r,pl,n⟩:=a.tuple g;have u:=r.length;exact truthy_tuple pl (by simp only[aX];lia) ⟨H,a.tok _,by rw[Kz r];exact q⟩
  .subst c;obtain⟨n,z,j,r,m⟩ : d.length<=sizeLine/\(p==sysModules)=false/\∃j,KV d j/\s.heap.DictOf (j_ X.prog X.w) p j:=a.hok p _ g;have u:d.length=j.length:=Paired.length r;exact wpAny_truthy_dict z m wp ⟨H,a.tok _,by rw[YD r];exact q⟩
 |_=>exact(show False from e).elim
def acj(i:PE X a ta)(g:∀c,isTrue a X.env c=(do let v <- c;standAt a.pos;holding [v] (truthy v))) :
  PT X a (λI H Q=>ta I H λx Y=>∃k,t9 X.K x Y k/\Q k Y):=by
 intro U s I H Q b h;exact isTrue_plain (ah (i U s I H _ b h) λv d j=>by obtain⟨x,Z,l,e,f⟩:=j;exact PP U d I Z x v Q l e f) (g _)
def X8:OpR X (binaryOp .Add) (λx y H Q=>∃i j,x=.str i/\y=.str j/\i.length+j.length<=sizeLine/\Q (.str (i++j)) H):=by
 intro U s I H x y v u Q a c b h;obtain⟨i,j,rfl,rfl,d,q⟩:=h;obtain⟨t,rfl⟩:=c;obtain⟨t',rfl⟩:=b;exact add_str (λt' e=>⟨.str (i++j),H,a.tok _,⟨_,rfl⟩,q⟩) d
def vals1{x:V}(r:z5 [x] us):∃u,us=[u]/\z4 x u:=by
 cases r with
 |cons b a=>cases a;exact⟨_,rfl,b⟩
def __:kW X (.builtin "abs") (λJ H Q=>∃i,J=[.int i]/\Q (.int (if i<0 then -i else i)) H):=by
 intro U s I H J us Q a r h;obtain⟨i,rfl,q⟩:=h;obtain⟨u,rfl,t,rfl⟩:=vals1 r;exact call_abs_int λu b=>⟨.int (if i<0 then -i else i),H,a.tok _,⟨_,rfl⟩,q⟩
def abh:kW X (.type "int") (λJ H Q=>(∃i,J=[.int i]/\Q (.int i) H)\/∃k,J=[.bl k]/\Q (.int (if k then 1 else 0)) H):=by
 intro U s I H J us Q a r h;rcases h with⟨i,rfl,q⟩|⟨k,rfl,q⟩
 .obtain⟨u,rfl,t,rfl⟩:=vals1 r;exact call_int_int ⟨.int i,H,a,⟨_,rfl⟩,q⟩
 .obtain⟨u,rfl,b⟩:=vals1 r;cases b;exact call_int_bool ⟨.int (if k then 1 else 0),H,a.tok _,⟨_,rfl⟩,q⟩
structure Ye(h:Heap)(x dx C:Addr)(mA:Str->Ω):Prop where
 obj:h.get? x=some (instObj C dx)
 ns:h.Ns1 dx mA
 ne:dx≠x
def aa9(n:h.Ns1 dx mA):∃b,h.get? dx=some b/\∀name,lookIn name b=some (mA name):=by
 obtain⟨o,es,k,f,hd,i,_,g⟩:=n;refine⟨o,f,λname=>?_⟩;have e:=g name;unfold nsFind findBy at e;rw[<- Array.find?_toList]at e;unfold lookIn;rw[hd];dsimp only;split
 .rename_i y q
  rw[q]at e;exact ZH some e
 .rename_i q
  rw[q]at e;have a:es.toList.any (·.refKey)=false:=by
   rw[List.any_eq_false];intro y d;obtain⟨z,t,c⟩:=i y (Array.mem_toList_iff.mp d);simp[DictEntry.refKey,c]
  have j:¬es.toList.any (·.refKey)=true:=by rw[a];exact bw
  rw[ZZ j];exact ZH some e
def Ye.look(I:Ye h x dx C mA):∃a,PySem.W.InstAt h x (instObj C dx) C (some a)/\∀name,lookIn name a=some (mA name) :=
 let⟨a,b,c⟩:=aa9 I.ns
 ⟨a,⟨I.obj,rfl,rfl,b⟩,c⟩
def get_map{b:Bool}{Q:Ε}(X:K.In s.heap)(I:Ye s.heap x dx C mA)(g:plainGet K C name)(f:hasDictIn K C)
 (i:findIn K (.ref C) name=some none)(d:mA name=some v)(c:handedIn v)(h:Q v { s with toks:=s.toks+1 }) :
  wpAny (model prog w) A (getAttr (.ref x) name b) Q E s:=by
 obtain⟨j,J,e⟩:=I.look;exact PySem.W.get_value X J (plainGet_of g).1 (PySem.W.findObj_own f i rfl (by rw[e,d])) c h
def acV{Q:Value×Θ->Shared->Prop}(X:K.In s.heap)(I:Ye s.heap x dx C mA)(a:plainGet K C name)
 (g:findIn K (.ref C) name=some (some (.ref f)))(d:isFn K (.ref f))(c:mA name=none)(h:Q (.ref f,[.ref x]) s) :
  wpAny (model prog w) A (getMethod (.ref x) name pl) Q E s:=by
 obtain⟨b,J,e⟩:=I.look;exact PySem.W.method_fn X J (plainGet_of a).1 (plainGet_of a).2 g (beq_iff_eq.mp d) (by show(lookIn name b).map (·.isSome)=some false;rw[e,c];rfl) h
def _I{i:Φ}(X:K.In s.heap)(I:Ye s.heap x dx C mA)
 (p:findIn K (.ref C) "__setattr__"=some (some (.builtin "object.__setattr__")))(q:plainOver K C)(o:takerIn K C name=some none)(t:hasDictIn K C)
 (n:PySem.Within mA i)(d:i.length<=sizeLine)
 (h:∀h',Ye h' x dx C (λy=>if y=name then some v else mA y)->Heap.SameBut dx s.heap h'->Q () { s with heap:=h',toks:=s.toks+2 }) :
  wpAny (model prog w) A (setAttr (.ref x) name v) Q E s:=by
 obtain⟨F,J,H⟩:=I.look;refine PySem.W.set_plain X J p (PySem.W.osa_open (s:={ s with toks:=s.toks+1 }) (r:=none) X J q o λb=>?_);obtain⟨L,u,D⟩:=PySem.W.any_some t;have m:s.heap.get? x=some ⟨.ref C,some dx,.plain,#[]⟩:=I.obj;refine ZU (ZT (ZU (ZU (wpAny_loadPart m (ZU (PySem.W.Looks.here (s:={ s with toks:=s.toks+1 }) (PySem.W.looks_clsIn X u) ?_))))));rw[D];refine ZT (a:=some dx) (ZU (ZT (ZU ?_)));refine wpAny_nsSet1 (s:={ s with toks:=s.toks+1 }) I.ns λh' j l=>?_;obtain⟨G,z,B,e,f,g⟩:=j.count (PySem.Within.cons name v n);refine ZU (wpAny_lookBehind e (by rw[f];exact pastItsLine_dict (aL g (by rw[length_cons];exact succ_le_succ d))) ?_);exact ZT (h _ ⟨(l.2 _ (Ne.symm I.ne)).trans I.obj,j,I.ne⟩ l)
def _S{R:Result->Shared->Prop}{b:Θ}(X:K.In s.heap)(e:makesIn K C)
 (i:findIn K (.ref C) "__init__"=some (some (.ref f)))(j:PySem.W.typeIn K (.ref f)=some (.type "function"))
 (h:codeAny (model prog w) (A.under (.builtin "type.__call__" ⟨.ref C::b,kw⟩)) (.call (.ref f) ⟨.ref (s.zs+1)::b,kw⟩) (PySem.W.InitBack (s.zs+1) R)
   { s with heap:=(s.heap.push emptyDict).push (instObj C s.zs) }) :
  codeAny (model prog w) A (.call (.ref C) ⟨b,kw⟩) R s:=by
 obtain⟨k,g,d,t,os⟩:=s;exact PySem.W.make_core (PySem.W.makes_of X e) (PySem.W.looks_findIn X i) (λa=>PySem.W.bind_fn X a j) (.inl rfl) h
def xX(f:Str)(v:V):xn->xn
 |[]=>[(f,v)]
 |(g,x)::r=>if g=f then(g,v)::r else(g,x)::xX f v r
theorem IW(f g:Str)(v:V):∀c:xn,(xX f v c).lookup g=if g=f then some v else c.lookup g
 |[]=>by
  show List.lookup g [(f,v)]=_;by_cases h:g=f
  .have a:(g==f):=beq_iff_eq.mpr h;simp only[List.lookup,a,ZY h]
  .have a:(g==f)=false:=beq_eq_false_iff_ne.mpr h;simp only[List.lookup,a,ZZ h]
 |(k,x)::r=>by
  have d:=IW f g v r;rw[show xX f v ((k,x)::r)=(if k=f then(k,v)::r else(k,x)::xX f v r)from rfl];by_cases b:k=f
  .rw[ZY b];by_cases h:g=k
   .have a:(g==k):=beq_iff_eq.mpr h;simp only[List.lookup,a,ZY (h.trans b)]
   .have a:(g==k)=false:=beq_eq_false_iff_ne.mpr h;simp only[List.lookup,a,ZZ (λe:g=f=>h (e.trans b.symm))]
  .rw[ZZ b];by_cases h:g=k
   .have a:(g==k):=beq_iff_eq.mpr h;simp only[List.lookup,a,ZZ (λe:g=f=>b (h.symm.trans e))]
   .have a:(g==k)=false:=beq_eq_false_iff_ne.mpr h;simp only[List.lookup,a];exact d
theorem Hw(f:Str)(v:V):∀b:xn,f∈(xX f v b).map (·.1)/\∀g,g∈b.map (·.1)->g∈(xX f v b).map (·.1)
 |[]=>⟨by simp[xX],λg h=>by simp at h⟩
 |(k,x)::r=>by
  obtain⟨d,c⟩:=Hw f v r;rw[show xX f v ((k,x)::r)=(if k=f then(k,v)::r else(k,x)::xX f v r)from rfl];by_cases a:k=f
  .rw[ZY a];subst a;exact⟨by simp,λg h=>by simpa using h⟩
  .rw[ZZ a];refine⟨?_,λg h=>?_⟩
   .rw[map_cons];exact aJ _ d
   .rw[map_cons]at h ⊢;rcases YU.mp h with e|e
    .exact YU.mpr (.inl e)
    .exact aJ _ (c g e)
theorem Ir(f:Str)(v:V):∀b:xn,(xX f v b).length<=b.length+1
 |[]=>by simp[xX]
 |(k,x)::r=>by
  have c:=Ir f v r;rw[show xX f v ((k,x)::r)=(if k=f then(k,v)::r else(k,x)::xX f v r)from rfl];by_cases a:k=f
  .rw[ZY a,length_cons,length_cons];exact Xs _
  .rw[ZZ a,length_cons,length_cons];exact succ_le_succ c
variable{v:V}{a:Addr}{fs:xn}{f m:Str}{b:Bool}
def Ci.some_of{o:Ω}(r:Ci (some v) o):∃u,o=some u/\z4 v u:=by
 cases o with
 |none=>exact(show False from r).elim
 |some u=>exact⟨u,rfl,r⟩
def Ci.none_of{o:Ω}(r:Ci none o):o=none:=by
 cases o with
 |none=>rfl
 |some u=>exact(show False from r).elim
def abK(r:z4 v u):handedIn u:=by
 cases v with
 |non=>cases(show u=Value.none from r);rfl
 |bl b=>cases(show u=Value.bool b from r);rfl
 |int i=>obtain⟨t,e⟩:=(show ∃t,u=Value.int i t from r);cases e;rfl
 |str x=>obtain⟨t,e⟩:=(show ∃t,u=Value.str x t from r);cases e;rfl
 |byt b=>obtain⟨t,e⟩:=(show ∃t,u=Value.bytes b t from r);cases e;rfl
 |flt b=>obtain⟨t,e⟩:=(show ∃t,u=Value.float b t from r);cases e;rfl
 |ref a=>cases(show u=Value.ref a from r);rfl
 |ty n=>cases(show u=Value.type n from r);rfl
def Ka(b:HOk P w H h)(e:H a=some (.ins C dx fs)):∃mA,Ye h a dx C mA/\(∀f,Ci (fs.lookup f) (mA f))/\PySem.Within mA (fs.map (·.1))/\fs.length<=1000/\H dx=some (.own a):=by
 obtain⟨d,z,g,c,mA,n,r,q⟩:=(show gM P w H h a (.ins C dx fs)from b a _ e);exact⟨mA,⟨c,n,g⟩,r,q,z,d⟩
structure Cls(K:Frag)(C:Addr):Prop where
 pg:plainGet K C Str.empty
 hd:hasDictIn K C
 po:plainOver K C
 sa:findIn K (.ref C) "__setattr__"=some (some (.builtin "object.__setattr__"))
def Cls.get{K:Frag}{C:Addr}(c:Cls K C)(f:Str):plainGet K C f:=c.pg
def cD(K:Frag)(C:Addr)(f:Str):Prop:=findIn K (.ref C) f=some none
def cD.taker(n:cD K C f):takerIn K C f=some none:=by
 unfold takerIn;rw[show findIn K (.ref C) f=some none from n]
 rfl
structure Meth(K:Frag)(C:Addr)(m:Str)(f:Addr):Prop where
 at_:findIn K (.ref C) m=some (some (.ref f))
 fn:isFn K (.ref f)
 kp:keepIn K (.ref f)
def Yh{Q:Ε}(d:Inv X U I H s)(e:H a=some (.ins C dx fs))(c:Cls X.K C)(n:cD X.K C f)(l:fs.lookup f=some v)
 (h:∀u s',Inv X U I H s'->z4 v u->Q u s'):wpAny (model X.prog X.w) A (getAttr (.ref a) f b) Q E s:=by
 obtain⟨mA,O,r,_,_,_⟩:=Ka d.hok e;obtain⟨u,i,g⟩:=Ci.some_of (v:=v) (o:=mA f) (by rw[<- l];exact r f);exact get_map d.kIn O (c.get f) c.hd n i (abK g) (h u _ (d.tok _) g)
def K_{g:Addr}{Q:Value×Θ->Shared->Prop}(b:Inv X U I H s)(e:H a=some (.ins C dx fs))(c:Cls X.K C)(k:Meth X.K C m g)(l:fs.lookup m=none)
 (h:Q (.ref g,[.ref a]) s):wpAny (model X.prog X.w) A (getMethod (.ref a) m pl) Q E s:=by
 obtain⟨mA,O,r,_,_,_⟩:=Ka b.hok e;have d:mA m=none:=Ci.none_of (by rw[<- l];exact r m);exact acV b.kIn O (c.get m) k.at_ k.fn d h
def X6{y:V}(d:Inv X U I H s)(e:H a=some (.ins C dx fs))(c:Cls X.K C)(n:cD X.K C f)(t:fs.length<1000)(m:z4 y u)
 (h:∀s',Inv X U I (upd H a (.ins C dx (xX f y fs))) s'->Q () s'):wpAny (model X.prog X.w) A (setAttr (.ref a) f u) Q E s:=by
 obtain⟨mA,O,r,j,_,k⟩:=Ka d.hok e;have p:(fs.map (·.1)).length<=sizeLine:=by rw[ak,sizeLine_eq];exact aL (Y2 t) wf
 refine _I d.kIn O c.sa c.po n.taker c.hd j p λh' i l=>h _ ?_;have hd:∃o,h'.get? dx=some o:=by obtain⟨o,_,_,D,_⟩:=i.ns;exact⟨o,D⟩
 refine d.write (x:=a) (e:=dx) (by rw[e];exact True.intro) (.inr k) (λb q B z=>(l.2 b B).trans z) hd ?_;refine⟨by rw[cA O.ne];exact k,?_,O.ne,i.obj,_,i.ns,λg=>?_,λg v=>?_⟩
 .have:=Ir f y fs;lia
 .show Ci ((xX f y fs).lookup g) (if g=f then some u else mA g);rw[IW];by_cases q:g=f
  .rw[ZY q,ZY q];exact m
  .rw[ZZ q,ZZ q];exact r g
 .by_cases q:g=f
  .rw[q];exact(Hw f y fs).1
  .refine(Hw f y fs).2 g (j g λz=>v ?_);show(if g=f then some u else mA g)=none;rw[ZZ q];exact z
def Inv.made(c:Inv X U I H s):Inv X U I (upd (upd H s.zs (.own (s.zs+1))) (s.zs+1) (.ins C s.zs []))
  { s with heap:=(s.heap.push emptyDict).push (instObj C s.zs) }:=by
 have g:(s.heap.push emptyDict).get? s.zs=some emptyDict:=aW s.heap rfl;have k:((s.heap.push emptyDict).push (instObj C s.zs)).get? (s.zs+1)=some (instObj C s.zs):=by
  have:=aW (s.heap.push emptyDict) (o:=instObj C s.zs) rfl;rwa[Heap.size_push]at this
 have j:(s.heap.push emptyDict).Ns s.zs (λ_=>none):=⟨emptyDict,#[],_,g,rfl,(λe i=>absurd i wr),λ_=>rfl⟩;have l:=c.laid (a:=s.zs) (o:=.own (s.zs+1)) (h':=s.heap.push emptyDict) (t':=s.toks) (λb u q=>aH _ q) (aG _) ⟨_,g⟩;refine l.laid (a:=s.zs+1) (o:=.ins C s.zs []) (t':=s.toks) (λb u q=>aH _ q) (WG (Heap.size_push _ _)) ?_;have d:s.zs≠s.zs+1:=aQ (X2 _);refine⟨by rw[cA d,cF],aZ _,d,k,λ_=>none,(Heap.Ns1.of_empty j).at λo q=>aH _ q,λ_=>True.intro,λy h=>absurd rfl h⟩
variable{Q:Ε}{o aI:Expr}{tv:TE}{c:Value}{t:TA}
def _o{env:Env}(b:attributeBase e f env (eval e env)=eval e env)
 (h:wpAny (model prog w) A (eval e env) (λo a=>wpAny (model prog w) A (getAttr o f true) Q E a) E s):wpAny (model prog w) A (eval (.Attribute e f N) env) Q E s :=
 Attribute_any_ h (by rw[arm_eval_Attribute,b])
def IP(K:Frag)(ta:TE)(f:Str):TE:=λI H Q=>ta I H λx Z=>∃a C dx fs v,x=.ref a/\Z a=some (.ins C dx fs)/\Cls K C/\cD K C f/\fs.lookup f=some v/\Q v Z
def IL(K:Frag)(ta tv:TE)(f:Str):TS:=λD I H=>tv I H λy Z=>ta I Z λx b=>∃a C dx fs,x=.ref a/\b a=some (.ins C dx fs)/\Cls K C/\cD K C f/\fs.length<1000 /\
 D.nx I (upd b a (.ins C dx (xX f y fs)))
abbrev zo(X:Cx)(a:Expr)(b:Str):Prop:=attributeBase a b X.env (eval a X.env)=eval a X.env
def D3(i:PE X e ta)(j:zo X e f):PE X (.Attribute e f N) (IP X.K ta f):=by
 intro U s I H Q b h;refine _o j (ah (i U s I H _ b h) λu t h=>?_);obtain⟨x,Z,o,d,a,C,dx,fs,v,rfl,k,c,n,l,q⟩:=h;obtain rfl:u=Value.ref a:=d;exact Yh o k c n l λp r m g=>⟨v,Z,m,g,q⟩
def Qb(m:PE X o ta)(j:PE X aI tv)(k:swapsWith aI (some (.Attribute o f bo)) N.line X.env=pure false):PS X (.Assign [.Attribute o f bo] aI N) (IL X.K ta tv f):=by
 intro U s I H D b h;refine plainObj_wpAny_Assign_Attribute (ah (j U s I H _ b h) λu d ⟨y,Z,v,e,q⟩=>ah (m U d I Z _ v q) λi z h=>?_) k;obtain⟨x,A,t,g,a,C,dx,fs,rfl,p,c,n,l,q2⟩:=h;obtain rfl:i=Value.ref a:=g;exact X6 t p c n l e λw r=>⟨I,_,r,q2⟩
inductive Ik(K:Frag)(H:Hp):V->Value->Prop where
 |non:Ik K H .non (.type "NoneType")
 |bl (x:Bool):Ik K H (.bl x) (.type "bool")
 |int (i:Int):Ik K H (.int i) (.type "int")
 |str (x:Str):Ik K H (.str x) (.type "str")
 |flt (x:UInt64):Ik K H (.flt x) (.type "float")
 |lst {a:Addr}{J:Ζ} (e:H a=some (.lst J)):Ik K H (.ref a) (.type "list")
 |frz {a:Addr}{o:Obj}{J:Ζ} (e:H a=some (.frz o (.lst J))):Ik K H (.ref a) (.type "list")
 |tup {a:Addr}{J:Ζ} (e:H a=some (.tup J)):Ik K H (.ref a) (.type "tuple")
 |dK {a:Addr}{kvs:xF} (e:H a=some (.dK kvs)):Ik K H (.ref a) (.type "dict")
 |ins {a C dx:Addr}{fs:xn} (e:H a=some (.ins C dx fs)) (cl:Cls K C) (ha:findIn K (.ref C) "__class__"=some (some (.builtin "object.__class__")))
   (hn:specialIn K (.builtin "object.__class__") "__get__"=some (some (.builtin "getset_descriptor.__get__"))) (htk:PySem.W.takesIn K (.builtin "object.__class__")=some true)
   (hm:mroIn K C (.type "object")=some true):Ik K H (.ref a) (.ref C)
def aby{x:V}{t:Value}(f:Inv X U I H s)(g:z4 x u)(D:Ik X.K H x t)(e:kitOne X.K t c=some b)(h:∀F,Q (.bool b) { s with toks:=F }) :
  wpAny (model X.prog X.w) A (call (.builtin "isinstance") [u,c]) Q E s:=by
 cases D with
 |non=>cases(show u=Value.none from g);exact kia_one PySem.W.kitx_none f.kIn True.intro e (λz=>nomatch z) h
 |bl y=>cases(show u=Value.bool y from g);exact kia_one PySem.W.kitx_bool f.kIn True.intro e (λz=>nomatch z) h
 |int i=>obtain⟨t,q⟩:=(show ∃t,u=Value.int i t from g);cases q;exact kia_one PySem.W.kitx_int f.kIn True.intro e (λz=>nomatch z) h
 |str y=>obtain⟨t,q⟩:=(show ∃t,u=Value.str y t from g);cases q;exact kia_one PySem.W.kitx_str f.kIn True.intro e (λz=>nomatch z) h
 |flt y=>obtain⟨t,q⟩:=(show ∃t,u=Value.float y t from g);cases q;exact kia_one PySem.W.kitx_float f.kIn True.intro e (λz=>nomatch z) h
 |@lst a J j =>
  cases(show u=Value.ref a from g);obtain⟨_,_,n,_,k⟩:=(show gM X.prog X.w H s.heap a (.lst J)from f.hok a _ j);exact kia_one kitx_list f.kIn ⟨_,k,rfl⟩ e (λz=>nomatch z) h
 |@frz a G J j =>
  cases(show u=Value.ref a from g);obtain⟨_,_,_,n,_,k⟩:=(show gM X.prog X.w H s.heap a (.frz G (.lst J))from f.hok a _ j);exact kia_one kitx_list f.kIn ⟨_,k,rfl⟩ e (λz=>nomatch z) h
 |@tup a J j =>
  cases(show u=Value.ref a from g);obtain⟨_,_,_,p⟩:=(show gM X.prog X.w H s.heap a (.tup J)from f.hok a _ j);obtain⟨o,k,r,_⟩:=p;exact kia_one kitx_tuple f.kIn ⟨o,k,r⟩ e (λz=>nomatch z) h
 |@dK a l j =>
  cases(show u=Value.ref a from g);obtain⟨_,_,P,_,p⟩:=(show gM X.prog X.w H s.heap a (.dK l)from f.hok a _ j);obtain⟨o,es,S,k,r,_⟩:=p;exact kia_one PySem.W.kitx_dict f.kIn ⟨o,k,r.1⟩ e (λz=>nomatch z) h
 |@ins a C dx fs j B N L m M =>
  cases(show u=Value.ref a from g);obtain⟨mA,O,_⟩:=Ka f.hok j;obtain⟨R,d,_⟩:=O.look;exact kia_one (PySem.W.kitx_own (B.get _) B.hd N L m M) f.kIn d e (λz=>nomatch z) h
structure dY(k:Nat)(A:Around):Prop where
 hd:A.handled=none
 dp:A.depth+3*k+5<recursionLimit
 un:A.units+16*k+200<cLine
def dY.mono{j:Nat}(r:dY k A)(h:j<=k):dY j A:=⟨r.hd,by have:=r.dp;lia,by have:=r.un;lia⟩
def dY.md{n:Nat}(h:dY n A)(e:k<=n:=by decide):dY k A:=h.mono e
def dY.deeper{k:Nat}{A:Around}(r:dY (k+1) A)(env:Env):dY k (A.deeper env) :=
 ⟨r.hd,by have:=r.dp;show A.depth+1+3*k+5<_;lia,by have:=r.un;show A.units+3+16*k+200<_;lia⟩
def YH : (A.under (.builtin "type.__call__" ⟨.ref C::us,kw⟩)).depth=A.depth+1:=by
 first|rfl|simp[Around.under,Code.weight,Code.isCreation,Code.isGuard,Code.isCaller,Code.frames,Code.isFrame,guardIds]
def YS : (A.under (.builtin "type.__call__" ⟨.ref C::us,kw⟩)).units=A.units+1:=by
 first|rfl|simp[Around.under,Code.cUnits,Code.frames,Code.isFrame]
def dY.make(r:dY (k+1) A)(C:Addr)(us:Θ)(kw:xh):dY k (A.under (.builtin "type.__call__" ⟨.ref C::us,kw⟩)) :=
 ⟨r.hd,by have:=r.dp;rw[YH];lia,by have:=r.un;rw[YS];lia⟩
def dY.depth{k:Nat}{A:Around}(r:dY k A):A.depth<recursionLimit:=by have:=r.dp;lia
def dY.units{k:Nat}{A:Around}(r:dY k A):A.units+64<cLine:=by have:=r.un;lia
def ov:TA:=λ_ H Q=>Q [] H
def NF(ta:TE)(tr:TA):TA:=λI H Q=>ta I H λx Z=>tr I Z λJ a=>Q (x::J) a
def zG:PA X [] ov:=λ_ _ _ _ H Q I h=>Calls.spliced_nil ⟨[],H,I,.nil,h⟩
abbrev qS(X:Cx)(a:Expr)(b:xw):Prop:=starEach (a::b) X.env=(false,eval a X.env)::starEach b X.env
def f9(k:PE X e te)(j:PA X es t)(i:qS X e es:=by rfl):PA X (e::es) (NF te t):=by
 intro N U s I H Q a h;rw[i];show wpAny _ _ (spliced ((false,eval e X.env)::backTo N (starEach es X.env))) _ _ s;refine Calls.spliced_cons (ah (k U s I H _ a h) λu c b=>?_);obtain⟨x,Z,m,f,g⟩:=b;exact ah (j N U c I Z _ m g) λus o b=>by obtain⟨J,n,l,d,q2⟩:=b;exact⟨x::J,n,l,.cons f d,q2⟩
def IJ(t:TA):TE:=λI H Q=>t I H λJ Z=>J.length<=sizeLine/\∀p,Z p=none->Q (.ref p) (upd Z p (.tup J))
def IN(t:TA):TE:=λI H Q=>t I H λJ Z=>J.length<=sizeLine/\∀p,Z p=none->Q (.ref p) (upd Z p (.lst J))
def PR{f}(h:PA X es t):PE X (.Tuple es f N) (IJ t):=by
 intro U s I H Q a g;refine wpAny_Tuple_spliced (ah (h N U s I H _ a g) λus c ⟨J,Z,d,r,z,q⟩=>⟨by rw[<- r.length];exact z,?_⟩);have i:Z c.zs=none:=d.hok.fresh (aG _);refine⟨.ref c.zs,upd Z c.zs (.tup J),d.laid (t':=c.toks) (λb u e=>aH _ e) (aG _) ?_,rfl,q _ i⟩;exact⟨z,us,r,⟨_,aW _ rfl,rfl,_,rfl⟩⟩
def Pp(h:PA X es t):PE X (.List es N) (IN t):=by
 intro U s I H Q a f;refine wpAny_List_spliced (ah (h N U s I H _ a f) λus c ⟨J,Z,d,r,z,q⟩=>⟨by rw[<- r.length];exact z,?_⟩);have g:Z c.zs=none:=d.hok.fresh (aG _);refine⟨.ref c.zs,upd Z c.zs (.lst J),d.laid (t':=c.toks) (λb u e=>aH _ e) (aG _) ?_,rfl,q _ g⟩;exact⟨z,us,0,r,aW _ rfl⟩
abbrev Sp:=Ζ->Hp->VK->XK->Prop
abbrev eR:=xt->Hp->Shared->XK->Value->Shared->Prop
structure Lh(P:Program)(w:World)(K:Frag)(mg:Str->Ω)(base:Heap)(A:Around)(outer:xt)(s:Shared)(H:Hp):Prop where
 frames:A.frames=some outer
 mod:Mod K mg base
 bs:∀b o,base.get? b=some o->s.heap.get? b=some o/\H b=none
 bsz:base.objs.size<=s.zs
 funs:s.heap.FunFrames base outer
 frf:∀b∈ci outer,H b=none
 hok:HOk P w H s.heap
 bare:AllBare s.gens
def CE(a:xt)(P:Program)(w:World)(H:Hp)(s:Shared)(Q:VK)(u:Value)(s':Shared):Prop :=
 ∃v Y,s'.os=s.os/\AllBare s'.gens/\Un (ci a) [] H Y s.heap s'.heap/\HOk P w Y s'.heap/\z4 v u/\Q v Y
def CR(b:eR)(a:xt)(P:Program)(w:World)(H:Hp)(s:Shared)(Q:VK)(E:XK)(r:Result)(s':Shared):Prop :=
 match r with
 |.ok (.ret u)=>CE a P w H s Q u s'
 |.ok _=>False
 |.error e=>b a H s E e s'
structure bW(P:Program)(w:World)(K:Frag)(mg:Str->Ω)(base:Heap)(CX:eR)(k:Nat)(f:Addr)(fd:FuncData)(ps:Φ)(sp:Sp):Prop where
 len:∀vs H Q E,sp vs H Q E->vs.length=ps.length
 run:∀(A:Around)(outer:xt)(s:Shared)(H:Hp)(args:Args)(us:Θ)(vs:Ζ)(Q:VK)(E:XK),dY k A->Lh P w K mg base A outer s H->BindsTo s fd args (ps.zip us)->z5 vs us->sp vs H Q E ->
  codeAny (model P w) A (.call (.ref f) args) (CR CX outer P w H s Q E) s
variable{f:Addr}{mg:Str->Ω}{base:Heap}{CX:eR}{fd:FuncData}{ps:Φ}{sp:Sp}{Q:VK}{E:XK}{vs dm:Ζ}{ds:Θ}{x:Str}{ai:Pos}{O:Scope}
def bW.imp{b:Sp}(F:bW P w K mg base CX k f fd ps sp)
 (h:∀vs H Q E,b vs H Q E->sp vs H Q E):bW P w K mg base CX k f fd ps b :=
 ⟨λvs H Q E q=>F.len vs H Q E (h _ _ _ _ q),λA a s H c us vs Q E g i j d e=>F.run A a s H c us vs Q E g i j d (h _ _ _ _ e)⟩
def Lh.make{a:xt}(e:Lh P w K mg base A a s H)(C:Addr)(us:Θ)(kw:xh) :
  Lh P w K mg base (A.under (.builtin "type.__call__" ⟨.ref C::us,kw⟩)) a s H:=⟨by first|exact e.frames|(simpa[Around.under,Code.envs,Code.isFrame,pushEnvs]using e.frames),e.mod,e.bs,e.bsz,e.funs,e.frf,e.hok,e.bare⟩
def Inv.env0(a:Inv X U I H s):Lh X.prog X.w X.K X.mg X.base X.A X.stack s H :=
 ⟨a.ok.frames,a.ok.mod,a.bs,aL a.ok.bsz a.sz,a.stack,a.stkFree,a.hok,a.bare⟩
def Inv.after(a:Inv X U I H s)(h:CE X.stack X.prog X.w H s Q u s'):EP X U I Q u s':=by
 obtain⟨v,Y,os,bare,un,hok,r,q⟩:=h;obtain⟨e,g,d,t,c⟩:=s';obtain rfl:c=s.os:=os;exact⟨v,Y,a.call (h':=e) (g':=g) (d':=d) (t':=t) (ch:=[]) un hok bare (λb z=>absurd z wr),r,q⟩
def Nd(sp:Sp)(dm:Ζ)(E:XK)(t:TA):TE:=λI H Q=>t I H λvs Z=>sp (vs++dm) Z Q E
def CQ(C:Addr)(m:Str)(sp:Sp)(dm:Ζ)(E:XK)(ta:TE)(t:TA):TE:=λI H Q=>ta I H λx Z=>∃a dx fs,x=.ref a/\Z a=some (.ins C dx fs)/\fs.lookup m=none /\
 t I Z λvs b=>sp (x::(vs++dm)) b Q E
def Mm(C:Addr)(sp:Sp)(dm:Ζ)(E:XK)(t:TA):TE:=λI H Q=>t I H λvs Z=>∀x dx,Z x=none->Z dx=none->dx≠x ->
 sp (.ref x::(vs++dm)) (upd (upd Z dx (.own x)) x (.ins C dx [])) (λv a=>v=.non/\Q (.ref x) a) E
def Binds(K:Frag)(fd:FuncData)(ps:Φ)(ds:Θ):Prop :=
 ∀(s:Shared)(us:Θ),K.In s.heap->(us++ds).length=ps.length->BindsTo s fd ⟨us,[]⟩ (ps.zip (us++ds))
def Binds.all(h:∀us:Θ,us.length=ps.length->bindArgs fd ⟨us,[]⟩=pure (ps.zip us)):Binds K fd ps []:=λs us _ a=>by
 rw[append_nil]at a ⊢;exact .of_eq (h us a)
def Passes(CX:eR)(X:Cx)(E:XK):Prop:=∀(U:Δ)(I:St)(H:Hp)(s:Shared)(e:Value)(s':Shared),Inv X U I H s->CX X.stack H s E e s'->X.xe e s'
def LC(F:bW X.prog X.w X.K X.mg X.base CX k f fd ps sp)(g:dY k X.A)(j:Binds X.K fd ps ds)(hd:z5 dm ds)(d:Passes CX X E)
 (a:Inv X U I H s)(r:z5 vs us)(h:sp (vs++dm) H Q E):wpAny (model X.prog X.w) X.A (call (.ref f) us) (EP X U I Q) X.xe s:=by
 have c:z5 (vs++dm) (us++ds):=r.append hd;have i:(us++ds).length=ps.length:=by rw[<- c.length];exact F.len _ _ _ _ h
 refine wpAny_call (codeAny_mono (F.run X.A X.stack s H ⟨us,[]⟩ (us++ds) (vs++dm) Q E g a.env0 (j s us a.kIn i) c h) λr s' b=>?_);cases r with
 |error e=>exact d U I H s e s' a b
 |ok l =>
  cases l with
  |ret u=>exact a.after b
  |next=>exact False.elim b
  |brk=>exact False.elim b
  |cont=>exact False.elim b
abbrev qE(X:Cx)(a:Pos)(b:xw):Prop:=(backTo a (starEach b X.env)).any (·.1)=false
def VI(F:bW X.prog X.w X.K X.mg X.base CX k f fd ps sp)(d:dY k X.A)(j:Gl X x)(g:X.mg x=some (.ref f))(i:keepIn X.K (.ref f))(m:Binds X.K fd ps ds)(hd:z5 dm ds)(c:Passes CX X E)
 (n:PA X (e::es) t)(o:qV x:=by decide)(l:qS X e es:=by rfl)(u:qE X N es:=by rfl) :
  PE X (.Call (.Name x p) (e::es) [] N) (Nd sp dm E t):=by
 intro U s I H Q a h;refine wpAny_Call_Name_kw (Ej a j g ?_ o);refine callWith_K (h₀:=X.base) a.ok.mod.kin i (ah (n N U s I H _ a h) λus v ⟨vs,Z,b,r,q⟩=>⟨b.kIn,?_⟩) l u;exact LC F d m hd c b r q
def _i(B:PE X o ta)(c:Cls X.K C)(g:Meth X.K C m f)(F:bW X.prog X.w X.K X.mg X.base CX k f fd ps sp)(z:dY k X.A)(D:Binds X.K fd ps ds)(hd:z5 dm ds)(v:Passes CX X E)(G:PA X (e::es) t)
 (O:qS X e es:=by rfl)(P:qE X N es:=by rfl)
 (y:eval (.Call (.Attribute o m ai) (e::es) [] N) X.env=(do
   let d <- eval o X.env
   standAt ai.atName
   let(f,first) <- holding [d] (getMethod d m pl)
   callWith N f first (backTo N (starEach (e::es) X.env)) (backToKw N (keywordEach [] X.env))):=by rfl) :
  PE X (.Call (.Attribute o m ai) (e::es) [] N) (CQ C m sp dm E ta t):=by
 intro U s I H Q b h;refine methodCall_KW (pl:=pl) (ah (B U s I H _ b h) λu n J=>?_) y;obtain⟨x,Z,j,p,a,dx,fs,L,M,l,q⟩:=J;subst L;obtain rfl:u=Value.ref a:=p;refine K_ j M c g l ?_;refine callWith_K (first:=[.ref a]) (h₀:=X.base) b.ok.mod.kin g.kp (ah (G N U n I Z _ j q) λus R ⟨vs,S,i,r,q2⟩=>⟨i.kIn,?_⟩) O P;exact LC (us:=.ref a::us) (vs:=.ref a::vs) F z D hd v i (.cons rfl r) q2
def acq(r:PE X o ta)(c:Cls X.K C)(g:Meth X.K C m f)(F:bW X.prog X.w X.K X.mg X.base CX k f fd ps sp)(p:dY k X.A)(t:Binds X.K fd ps ds)(hd:z5 dm ds)(j:Passes CX X E)
 (n:eval (.Call (.Attribute o m ai) [] [] N) X.env=(do
   let e <- eval o X.env
   standAt ai.atName
   let(f,first) <- holding [e] (getMethod e m pl)
   callWith N f first (backTo N (starEach [] X.env)) (backToKw N (keywordEach [] X.env))):=by rfl) :
  PE X (.Call (.Attribute o m ai) [] [] N) (CQ C m sp dm E ta ov):=by
 intro U s I H Q b h;refine methodCall_KW (pl:=pl) (ah (r U s I H _ b h) λu B v=>?_) n;obtain⟨x,Z,d,i,a,dx,fs,y,z,l,q⟩:=v;subst y;obtain rfl:u=Value.ref a:=i;refine K_ d z c g l ?_;exact PySem.W.callWith_K0 (first:=[.ref a]) d.kIn g.kp (LC (us:=[.ref a]) (vs:=[.ref a]) F p t hd j d (.cons rfl .nil) q)
structure Mk(K:Frag)(C f:Addr):Prop where
 makes:makesIn K C
 init:findIn K (.ref C) "__init__"=some (some (.ref f))
 fn:isFn K (.ref f)
 kp:keepIn K (.ref C)
def acA(M:Mk X.K C f)(F:bW X.prog X.w X.K X.mg X.base CX k f fd ps sp)(l:dY (k+1) X.A)(n:Binds X.K fd ps ds)(hd:z5 dm ds)
 (j:Passes CX X E)(a:Inv X U I H s)(r:z5 vs us)
 (h:∀x dx,H x=none->H dx=none->dx≠x->sp (.ref x::(vs++dm)) (upd (upd H dx (.own x)) x (.ins C dx [])) (λv t=>v=.non/\Q (.ref x) t) E) :
  wpAny (model X.prog X.w) X.A (call (.ref C) us) (EP X U I Q) X.xe s:=by
 have g:=h (s.zs+1) s.zs (a.hok.fresh (Xs _)) (a.hok.fresh (aG _)) (aQ (X2 _));have c:=Inv.made (C:=C) a;have d:z5 (V.ref (s.zs+1)::(vs++dm)) (Value.ref (s.zs+1)::(us++ds)):=.cons rfl (r.append hd);have m:(Value.ref (s.zs+1)::us++ds).length=ps.length:=by
  have e:=d.length;rw[F.len _ _ _ _ g]at e;exact e.symm
 refine wpAny_call (_S (f:=f) a.kIn M.makes M.init (beq_iff_eq.mp M.fn) (codeAny_mono (F.run _ X.stack _ _ ⟨Value.ref (s.zs+1)::us,[]⟩ (Value.ref (s.zs+1)::(us++ds)) _ _ E (l.make C us [])
  (c.env0.make C us []) (n _ (Value.ref (s.zs+1)::us) c.kIn m) d g) λr s' b=>?_))
 cases r with
 |error e=>exact j U I _ _ e s' c b
 |ok o =>
  cases o with
  |ret u =>
   obtain⟨v,Y,q,i,p,q3⟩:=c.after b;subst p;exact⟨i,⟨V.ref (s.zs+1),Y,q,rfl,q3⟩⟩
  |next=>exact False.elim b
  |brk=>exact False.elim b
  |cont=>exact False.elim b
def _2(M:Mk X.K C f)(F:bW X.prog X.w X.K X.mg X.base CX k f fd ps sp)(d:dY (k+1) X.A)(i:Gl X x)(g:X.mg x=some (.ref C))(l:Binds X.K fd ps ds)(hd:z5 dm ds)(c:Passes CX X E)
 (m:PA X (e::es) t)(n:qV x:=by decide)(j:qS X e es:=by rfl)(o:qE X N es:=by rfl) :
  PE X (.Call (.Name x p) (e::es) [] N) (Mm C sp dm E t):=by
 intro U s I H Q a h;refine wpAny_Call_Name_kw (Ej a i g ?_ n);refine callWith_K (h₀:=X.base) a.ok.mod.kin M.kp (ah (m N U s I H _ a h) λus u ⟨vs,Z,b,r,q⟩=>⟨b.kIn,?_⟩) j o;exact acA M F d l hd c b r q
structure bK(N P:Φ)(sc:Scope):Prop where
 kind:sc.kind=.function
 co:sc.isCoroutine=false
 gen:sc.isGenerator=false
 nd:N.Nodup
 pre:N.take P.length=P
 par:∀x∈P,sc.names.lookup x=some .local\/sc.names.lookup x=some .cell
 nofree:∀y∈sc.names,y.2≠.free
theorem Qp{kindOf:Str->Option NameKind}{x:Str} : ∀{a:xh}{m:Str->Ω},(∀v,(x,v)∉a)->bindL kindOf a m x=m x
 |[],_,_=>rfl
 |(n,v)::r,m,h=>by
  unfold bindL;rw[Qp λw b=>h w (aJ _ b)];split
  .have:x≠n:=by rintro rfl;exact h v aO
   simp[this]
  .rfl
theorem Qe{kindOf:Str->Option NameKind}{x:Str} : ∀{a:xh}{m:Str->Ω},(∀v,(x,v)∉a)->bindC kindOf a m x=m x
 |[],_,_=>rfl
 |(n,v)::r,m,h=>by
  unfold bindC;rw[Qe λw b=>h w (aJ _ b)];split
  .rfl
  .have:x≠n:=by rintro rfl;exact h v aO
   simp[this]
theorem Pk{kindOf:Str->Option NameKind}{x:Str}{v:Value} : ∀{P:Φ}{vs:Θ}{i:Nat}{m:Str->Ω},P.Nodup->P[i]?=some x->vs[i]?=some v->kindOf x=some .local ->
  bindL kindOf (P.zip vs) m x=some v
 |[],_,_,_,_,h,_,_=>by simp at h
 |_::_,[],_,_,_,_,h,_=>by simp at h
 |p::P,w::vs,0,m,c,b,a,d=>by
  simp at b a;subst b;subst a;show bindL kindOf ((p,w)::P.zip vs) m p=_;unfold bindL;rw[Qp λv e=>(List.nodup_cons.mp c).1 (VX e).1,ZY d];simp
 |p::P,w::vs,i+1,m,c,b,a,d=>by
  show bindL kindOf ((p,w)::P.zip vs) m x=_;unfold bindL;exact Pk (i:=i) (List.nodup_cons.mp c).2 (by simpa using b) (by simpa using a) d
theorem Pr{kindOf:Str->Option NameKind}{x:Str}{v:Value} : ∀{P:Φ}{vs:Θ}{i:Nat}{m:Str->Ω},P.Nodup->P[i]?=some x->vs[i]?=some v->kindOf x≠some .local ->
  bindC kindOf (P.zip vs) m x=some v
 |[],_,_,_,_,h,_,_=>by simp at h
 |_::_,[],_,_,_,_,h,_=>by simp at h
 |p::P,w::vs,0,m,c,b,a,d=>by
  simp at b a;subst b;subst a;show bindC kindOf ((p,w)::P.zip vs) m p=_;unfold bindC;rw[Qe λv e=>(List.nodup_cons.mp c).1 (VX e).1,ZZ d];simp
 |p::P,w::vs,i+1,m,c,b,a,d=>by
  show bindC kindOf ((p,w)::P.zip vs) m x=_;unfold bindC;exact Pr (i:=i) (List.nodup_cons.mp c).2 (by simpa using b) (by simpa using a) d
def start(N:Φ)(vs:Ζ):St:=vs.map some++replicate (N.length-vs.length) none
def Ls(CX:eR)(P:Program)(w:World)(K:Frag)(mg:Str->Ω)(base:Heap)(N:Φ)(a:Str)(O:Scope)(f:Addr)(b:Value)(A:Around)(outer:xt)(s:Shared)(H:Hp)(E:XK):Cx where
 prog:=P
 w:=w
 K:=K
 mg:=mg
 base:=base
 A:=A.deeper (envOfC a O s.zs f b)
 N:=N
 s₀:=s
 H₀:=H
 env:=envOfC a O s.zs f b
 outer:=outer
 stack:=envOfC a O s.zs f b::outer
 ex:=[]
 calm:=true
 fn:=λ_=>true
 pn:=[]
 xe:=λe s'=>wpAny (model P w) (A.deeper (envOfC a O s.zs f b)) (leaving (envOfC a O s.zs f b) e) (λ_ c=>CX outer H s E e c) (λd c=>CX outer H s E d c) s'
def Wj{a:Scope}{n:Nat}(h:a.names.lookup x=some .cell):∃c,(cellsFrom n a.names []).lookup x=some c:=by
 have q:=PySem.W.cellsFrom_some a.names n [] (.inl h);exact Option.isSome_iff_exists.mp q
def aa1{N:Φ}{g:Str}{C:Value}{d:xt}{G:Shared}
 (S:bK N ps O)(hd:A.handled=none)(l:Lh P w K mg base A d s H)(M:vs.length=ps.length)(r:z5 vs us)
 (x:InCallC s s.zs (bindL (envOfC g O s.zs f C).kindOf (ps.zip us) λ_=>none) (cellsFrom (s.zs+1) O.names []) (bindC (envOfC g O s.zs f C).kindOf (ps.zip us) λ_=>none) G) :
  Inv (Ls CX P w K mg base N g O f C A d s H E) [] (start N vs) H G:=by
 have U:ps.length<=N.length:=by have:=ZH List.length S.pre;rw[aY]at this;lia
 obtain⟨D,R,rfl,J⟩:=x.done;have F:∀b:Addr,b∉(Ls CX P w K mg base N g O f C A d s H E).ex:=λb z=>absurd (show b∈([] : Ψ)from z) wr;refine⟨⟨l.mod,S.kind,rfl,rfl,aG _,λy z c D j=>?_,λy m=>?_,λy c _ h=>?_,λ_=>hd,Around.frames_deeper l.frames,.inr ⟨rfl,rfl⟩,λb z=>absurd z (F b),l.bs,l.bsz,λb _ _=>F b,λb z=>absurd z (F b),l.funs,l.frf⟩,
  rfl,l.bare,Un.kept J,⟨_,x.toInCall.ns,λi y v D j T=>?_⟩,λy c h=>⟨_,x.cell y c h⟩,l.hok.fresh (aG _),λy c h=>?_,λp t=>absurd (show p∈([] : Δ)from t) wr,l.hok.kept J,?_⟩
 .exact name_of_addr x.apart (PySem.mem_of_lookup D) (PySem.mem_of_lookup j)
 .have m:O.names.lookup y=some .cell\/O.names.lookup y=some .free:=m;rcases m with m|m
  .exact Wj m
  .exact absurd rfl (S.nofree _ (PySem.mem_of_lookup m))
 .exact Y2 (x.above y c (PySem.mem_of_lookup h))
 .have B:i<vs.length:=by
   unfold start at j;by_cases B:i<vs.length
   .exact B
   .rw[aD (by simpa using B)]at j;rw[X1]at j;split at j<;>cases j
  have Q:vs[i]?=some v:=by
   unfold start at j;rw[aF (by simpa using B),aq]at j;cases e:vs[i]? with
   |none=>rw[e]at j;cases j
   |some a=>rw[e]at j;cases j;rfl
  obtain⟨u,I,L⟩:=r.get Q;have t:ps[i]?=some y:=by
   rwa[<- S.pre,List.getElem?_take_of_lt (aR B (WG M))]
  have o:ps.Nodup:=by rw[<- S.pre];exact S.nd.sublist (List.take_sublist _ _)
  refine⟨u,L,?_⟩;rcases S.par y (aC t)with k|k
  .exact .inl ⟨k,Pk o t I k⟩
  .obtain⟨c,e⟩:=Wj (n:=s.zs+1) k;refine .inr ⟨.inl k,c,e,?_⟩;have q:=x.cell y c e;rw[Pr o t I (by show O.names.lookup y≠_;rw[k];decide)]at q;exact q
 .exact l.hok.fresh (Y2 (x.above y c (PySem.mem_of_lookup h)))
 .unfold start;show _=N.length;rw[aA,ak,aN];lia
def CY{c:Str}{d:Arguments}{D kV G B h F X:Value}{R U:Ξ}
 {dQ:Array (Ω)}{N:Φ}(lk:K.lookup f=some ⟨X,U,.func (PySem.W.fnOf name c d body O D kV G B R h F),dQ⟩)(a9:codeIn K h c)(S:bK N ps O)
 (j:∀vs H Q E,sp vs H Q E->vs.length=ps.length)
 (bg:∀(A:Around)(a:xt)(s:Shared)(H:Hp)(vs:Ζ)(Q:VK)(E:XK),dY k (A.deeper (envOfC c O s.zs f h))->sp vs H Q E ->
   ∃t,PSs (Ls CX P w K mg base N c O f h A a s H E) body t/\t { nx:=λ_ Y=>Q .non Y,rt:=Q } (start N vs) H) :
  bW P w K mg base CX (k+1) f (PySem.W.fnOf name c d body O D kV G B R h F) ps sp:=by
 refine⟨j,λA a s H M us vs Q E p l hb r C=>?_⟩;have hl:=j _ _ _ _ C;have T:K.In s.heap:=l.mod.kin.keeps λb o e=>(l.bs b o e).1;have Z:s.heap.NoLimit:=l.mod.nolimit.keeps λb o e=>(l.bs b o e).1;have c5:∀y∈ps.zip us,O.names.lookup y.1=some .local\/(O.names.lookup y.1=some .cell/\((cellsFrom (s.zs+1) O.names []).lookup y.1).isSome):=λ⟨n,v⟩ hy=>by
  rcases S.par n (VX hy).1 with q|q
  .exact .inl q
  .exact .inr ⟨q,PySem.W.cellsFrom_some _ _ _ (.inl q)⟩
 refine codeAny_call_function p.depth (T _ _ lk) rfl S.co S.gen rfl (PySem.W.codeRec_of T a9) (hb _ _ _ _ ?_);refine wpAny_newFunctionEnv_cells S.kind c5 λenv he z x=>?_;subst he;refine⟨Z.keeps x.toInCall.keep,codeAny_func ?_⟩;obtain⟨t,ht,hq⟩:=bg A a s H vs Q E (p.deeper _) C;have I:Inv (Ls CX P w K mg base N c O f h A a s H E) [] (start N vs) H z:=aa1 S p.hd l hl r x;refine wpAny_mono (ht [] z (start N vs) H _ I hq) (λfl s' i=>?_) λe s' i=>i;have L:∀{g:St}{Y:Hp}{v:V}{u:Value},Inv (Ls CX P w K mg base N c O f h A a s H E) [] g Y s'->z4 v u->Q v Y->CE a P w H s Q u s' :=
  λ{g Y v u}J m q=>⟨v,Y,J.os,J.bare,J.base,J.hok,m,q⟩
 cases fl with
 |ret u =>
  obtain⟨v,g,Y,J,m,q⟩:=i;exact L J m q
 |next =>
  obtain⟨g,Y,J,q⟩:=i;exact L (v:=V.non) (u:=Value.none) J rfl q
 |brk =>
  obtain⟨_,_,_,q⟩:=i;exact False.elim q
 |cont =>
  obtain⟨_,_,_,q⟩:=i;exact False.elim q
section
variable{X:Cx}{x:Str}{p N:Pos}{e:Expr}{es:xw}{t:TA}{id T:String}{r:Ζ->Hp->VK->Prop}
def p'(r:Ζ->Hp->VK->Prop)(t:TA):TE:=λI H Q=>t I H λvs Z=>r vs Z Q
def V4(l:kW X (.builtin id) r)(j:Gl X x)(i:X.mg x=none)(f:bootBuiltins x=some (.builtin id))(m:PA X (e::es) t)(g:x≠"__name__":=by decide)(o:qV x:=by decide)
 (k:qS X e es:=by rfl)(q:qE X N es:=by rfl):PE X (.Call (.Name x p) (e::es) [] N) (p' r t):=by
 intro U s I H Q a h;refine wpAny_Call_Name_kw (Di a j i f ?_ g o);exact PyProof.Rows.callWith_builtin1 (ah (m N U s I H _ a h) λus b n=>by obtain⟨vs,Z,u,c,d⟩:=n;exact l U b I Z vs us Q u c d) k q
def abD(l:kW X (.type T) r)(j:Gl X x)(i:X.mg x=none)(f:bootBuiltins x=some (.type T))(m:PA X (e::es) t)(g:x≠"__name__":=by decide)(o:qV x:=by decide)
 (k:qS X e es:=by rfl)(q:qE X N es:=by rfl):PE X (.Call (.Name x p) (e::es) [] N) (p' r t):=by
 intro U s I H Q a h;refine wpAny_Call_Name_kw (Di a j i f ?_ g o);exact PyProof.Rows.callWith_type1 (ah (m N U s I H _ a h) λus b n=>by obtain⟨vs,Z,u,c,d⟩:=n;exact l U b I Z vs us Q u c d) k q
end
end L2
namespace HT
open PySem PyProof.Rows
def sIx(n d:Nat):xo->Nat
 |none=>d
 |some v=>if v<0 then(v+(n:Int)).toNat else min v.toNat n
def Fi(n d k:Nat):sIx n d (some (k:Int))=min k n:=by
 show(if(k:Int)<0 then((k:Int)+(n:Int)).toNat else min (k:Int).toNat n)=min k n;rw[ZZ (Int.not_lt_of_ge (WZ _)),T2]
def ahr(n d:Nat)(hd:d<=n)(o:xo):sIx n d o<=n:=by
 cases o with
 |none=>exact hd
 |some v =>
  show(if v<0 then(v+(n:Int)).toNat else min v.toNat n)<=n;by_cases a:v<0
  .rw[ZY a];lia
  .rw[ZZ a];exact Nat.min_le_right _ _
end HT
namespace L2
open PySem PySem.Spec PyProof.Rows
abbrev TO:=St->Hp->(xo->Hp->Prop)->Prop
def PO(X:Cx)(e:Option Expr)(t:TO):Prop :=
 ∀(U:Δ)(s:Shared)(I:St)(H:Hp)(Q:xo->Hp->Prop),Inv X U I H s->t I H Q ->
  wpAny (model X.prog X.w) X.A (evalPart e X.env) (λu a=>∃o Y,Inv X U I Y a/\IsPart u o/\Q o Y) X.xe s
def _X:TO:=λ_ H Q=>Q none H
def MO(t:TE):TO:=λI H Q=>t I H λx Z=>∃i,x=.int i/\Q (some i) Z
def intsAre_of{b:xm} : ∀{a:Θ},z5 (b.map V.int) a->IntsAre a b:=by
 induction b with
 |nil=>intro a r;rw[map_nil]at r;cases r;exact .nil
 |cons n b f =>
  intro a r;rw[map_cons]at r;cases r with
  |cons d c =>
   obtain⟨t,e⟩:=d;subst e;exact .cons n t (f c)
variable{X:Cx}{e:Expr}{te:TE}{lo hi:Option Expr}{tl th:TO}{N p2:Pos}{α:Type}{n:Nat}{U:Δ}{I:St}{H:Hp}{s:Shared}{J ys:Ζ}{l:Addr}
def UD:PO X none _X:=by
 intro U s I H Q a h;rw[evalPart_none];exact ZT ⟨none,H,a,.none,h⟩
def _j(h:PE X e te):PO X (some e) (MO te):=by
 intro U s I H Q a d;rw[evalPart_some];refine ah (h U s I H _ a d) λu j f=>?_;obtain⟨x,Z,g,b,c⟩:=f;obtain⟨i,rfl,q⟩:=c;obtain⟨t,rfl⟩:=b;exact⟨some i,Z,g,.int i t,q⟩
def SlR(X:Cx)(r:V->xo->xo->Hp->VK->Prop):Prop :=
 ∀(U:Δ)(s:Shared)(I:St)(H:Hp)(x:V)(v b a:Value)(lo hi:xo)(c:Addr)(Q:VK),Inv X U I H s->z4 x v->s.heap.IsSliceOf c b a .none->IsPart b lo->IsPart a hi->r x lo hi H Q ->
  ∃T id,typeLookup (.type T) "__getitem__"=pure (some (.builtin id))/\s.TypeIs v T/\wpAny (model X.prog X.w) X.A (getItem v (.ref c)) (EP X U I Q) X.xe s
def SlR.or{r f:V->xo->xo->Hp->VK->Prop}(h:SlR X r)(k:SlR X f):SlR X (λx lo hi H Q=>r x lo hi H Q\/f x lo hi H Q):=by
 intro U s I H x v c b lo hi d Q a e j i g q;rcases q with q|q
 .exact h U s I H x v c b lo hi d Q a e j i g q
 .exact k U s I H x v c b lo hi d Q a e j i g q
def FY(r:V->xo->xo->Hp->VK->Prop)(te:TE)(tl th:TO):TE:=λI H Q=>te I H λx Z=>tl I Z λl b=>th I b λu a=>r x l u a Q
def _7{r:V->xo->xo->Hp->VK->Prop}(B:SlR X r)(E:PE X e te)(C:PO X lo tl)(y:PO X hi th):PE X (.Subscript e (.Slice lo hi none p2) N) (FY r te tl th):=by
 intro U s I H Q a h;refine Subscript_ (ah (E U s I H _ a h) λv m i=>?_);obtain⟨x,Z,L,n,o⟩:=i;refine wpAny_Slice (ah (C U m I Z _ L o) λg k ⟨l,M,K,t,q2⟩=>ah (y U k I M _ K q2) λf c i=>?_);obtain⟨u,j,J,p,q3⟩:=i;rw[evalPart_none];refine ZT ?_;have G:Inv X U I j { c with heap:=c.heap.push { cls:=.type "slice",data:=.fields #[g,f,.none] } }:=J.kept (t':=c.toks) λb O q=>aH _ q;obtain⟨T,id,F,z,D⟩:=B U { c with heap:=c.heap.push { cls:=.type "slice",data:=.fields #[g,f,.none] } } I j x v g f l u c.zs Q G n (Heap.IsSliceOf.new ..) t p q3;show wpAny (model X.prog X.w) X.A (subscriptTail e (.Slice lo hi none p2) v (.ref c.zs)) (EP X U I Q) X.xe { c with heap:=c.heap.push { cls:=.type "slice",data:=.fields #[g,f,.none] } };exact tail_any (ops:=[.ref c.zs,v]) z F D (by with_unfolding_all rfl)
def ib(J:Ζ)(lo hi:xo):Ζ:=(J.drop (HT.sIx J.length 0 lo)).take (HT.sIx J.length J.length hi-HT.sIx J.length 0 lo)
def WL(J:Ζ)(lo hi:xo):(ib J lo hi).length<=J.length:=by
 unfold ib;rw[aY,TW];lia
def c6(n:Nat)(i:Int):xC:=if 0<=i then(if i<n then some i.toNat else none)else if -(n:Int)<=i then some (i+n).toNat else none
def dq(J:List α)(i:Int):Option α:=(c6 J.length i).bind λj=>J[j]?
def ZL{i:Int}{j:Nat}(h:c6 n i=some j):seqIndex? i n=some j/\j<n/\-(n:Int)<=i/\i<n:=by
 unfold c6 at h;by_cases b:0<=i
 .rw[ZY b]at h;by_cases a:i<n
  .rw[ZY a]at h;have e:i.toNat=j:=Option.some.inj h;exact⟨by rw[seqIndex_of b a,e],by lia,by lia,a⟩
  .rw[ZZ a]at h;cases h
 .rw[ZZ b]at h;by_cases a : -(n:Int)<=i
  .rw[ZY a]at h;have e:(i+n).toNat=j:=Option.some.inj h;exact⟨by rw[seqIndex_neg (QY b) a,e],by lia,a,by lia⟩
  .rw[ZZ a]at h;cases h
def Tp{J:List α}{i:Int}{v:α}(h:dq J i=some v):∃j,seqIndex? i J.length=some j/\J[j]?=some v/\j<J.length/\-(J.length:Int)<=i/\i<J.length:=by
 unfold dq at h;cases e:c6 J.length i with
 |none=>rw[e]at h;cases h
 |some j =>
  rw[e]at h;obtain⟨d,c,b,a⟩:=ZL e;exact⟨j,d,h,c,b,a⟩
def vD(b:Expr):Prop:=∀o i,subscripted b false o i=operate [o,i] (getItem o i)
def IxR(X:Cx)(r:R2):Prop :=
 ∀(b a:Expr)(U:Δ)(s:Shared)(I:St)(H:Hp)(x y:V)(v u:Value)(Q:VK),Inv X U I H s->z4 x v->z4 y u->r x y H Q ->
  subscripted a false v u=operate [v,u] (getItem v u)->wpAny (model X.prog X.w) X.A (subscriptTail b a v u) (EP X U I Q) X.xe s
def MtR(X:Cx)(id:String)(r:V->Ζ->Hp->VK->Prop):Prop :=
 ∀(U:Δ)(s:Shared)(I:St)(H:Hp)(x:V)(J:Ζ)(v:Value)(a:Θ)(Q:VK),Inv X U I H s->z4 x v->z5 J a->r x J H Q ->
  wpAny (model X.prog X.w) X.A (call (.builtin id) (v::a)) (EP X U I Q) X.xe s
section
variable{X:Cx}{a b:Expr}{ta tb:TE}{N:Pos}
def IxR.or{r d:R2}(h:IxR X r)(i:IxR X d):IxR X (λx y H Q=>r x y H Q\/d x y H Q):=by
 intro g f U s I H x y v u Q a c b q e;rcases q with q|q
 .exact h g f U s I H x y v u Q a c b q e
 .exact i g f U s I H x y v u Q a c b q e
def Pz{r:R2}(i:IxR X r)(k:PE X a ta)(j:PE X b tb)(g:vD b):PE X (.Subscript a b N) (ip r ta tb):=by
 intro U s I H Q c h;exact Subscript_ (oa k j c h λv u d x y m l f e q=>i a b U d I m x y v u Q l f e q (g _ _))
def LL(K:Frag):R2:=λx y H Q=>∃p J i v,x=.ref p/\y=.int i/\SqL K H p J/\dq J i=some v/\Q v H
def IR(K:Frag):R2:=λx y H Q=>∃p J i v,x=.ref p/\y=.int i/\SqT K H p J/\dq J i=some v/\Q v H
def Hk:R2:=λx y H Q=>∃z i c,x=.str z/\y=.int i/\z.length<=sizeLine/\dq z.cps.toList i=some c/\Q (.str ⟨#[c]⟩) H
def Bf:IxR X (LL X.K):=by
 intro P O U s I H x y v u Q a o n h g;obtain⟨p,J,i,z,rfl,rfl,A,C,q⟩:=h;cases o;obtain⟨t,rfl⟩:=n;obtain⟨e,r,d,L⟩:=a.list A;obtain⟨j,b,F,N,E,D⟩:=Tp C;obtain⟨w,k,G⟩:=r.get F;have B:=r.length;have M:=zU;have l:EP X U I Q w s:=⟨z,H,a,G,q⟩;by_cases c:0<=i
 .have f:i.toNat=j:=by
   rw[seqIndex_of c D]at b;exact Option.some.inj b
  exact item_listR d.isList c wp (by rw[f];simpa using k) l g
 .have f:(i+(e.toArray.size:Int)).toNat=j:=by
   rw[seqIndex_neg (QY c) E]at b;rw[aX,<- B];exact Option.some.inj b
  exact subscriptTail_builtinR (x:=w) d.isList.typeIs slot_list_getitem.lookup
   (wpAny_getItem_list_neg (Q:=λr m=>r=w/\EP X U I Q r m) d.isList (QY c) (by rw[aX]<;>lia) wp (by rw[f];simpa using k) ⟨rfl,l⟩) g
def OC:IxR X (IR X.K):=by
 intro N M U s I H x y v u Q a e d h g;obtain⟨p,J,i,z,rfl,rfl,k,m,q⟩:=h;cases e;obtain⟨t,rfl⟩:=d;obtain⟨f,r,b,C⟩:=a.tuple k;obtain⟨j,L,n,G,F,E⟩:=Tp m;obtain⟨w,o,A⟩:=r.get n;have l:=r.length;have D:=zU;have B:EP X U I Q w s:=⟨z,H,a,A,q⟩;exact subscriptTail_builtinR (x:=w) b.typeIs slot_tuple_getitem.lookup
  (getItem_tuple (j:=j) (Q:=λr c=>r=w/\EP X U I Q r c) b wp wp (by rwa[aX,<- l]) (by simpa using o) ⟨rfl,B⟩) g
def N1:IxR X Hk:=by
 intro D C U s I H x y v u Q a e d h f;obtain⟨z,i,c,rfl,rfl,w,k,q⟩:=h;obtain⟨t,rfl⟩:=e;obtain⟨r,rfl⟩:=d;obtain⟨j,b,n,B,m,l⟩:=Tp k;have g:z.cps.toList.length=z.length:=by simp[Str.length]
 rw[g]at b m l;have A:=zU;exact tail_any (typeIs_str s z t) slot_str_getitem.lookup (getItem_str (c:=c) (by
  have p:decide (i < -(2^63:Int))=false:=Zp wp;have o:decide (i>=2^63)=false:=Zp wp;rw[p,o,Bool.or_false]) (by rw[b];simpa using n) ⟨.str ⟨#[c]⟩,H,a.tok _,⟨_,rfl⟩,q⟩) f
def Xp(a:Θ)(n j:Nat)(u:Value):Obj.mapSeq (·.setIfInBounds j u) { cls:=.type "list",data:=.seq a.toArray n }={ cls:=.type "list",data:=.seq (a.set j u).toArray n }:=by
 simp[Obj.mapSeq]
def Inv.lst{U:Δ}{I:St}{H:Hp}{s:Shared}{p:Addr}{J:Ζ}(a:Inv X U I H s)(h:H p=some (.lst J)) :
  ∃(b:Θ)(n:Nat),z5 J b/\s.heap.get? p=some { cls:=.type "list",data:=.seq b.toArray n }/\J.length<=sizeLine:=by
 obtain⟨z,b,n,r,e⟩:=a.hok p _ h;exact⟨b,n,r,e,z⟩
def Inv.lstUpd{p:Addr}{d c:Θ}{g:Nat}{f:Obj->Obj}(a:Inv X U I H s)(h:H p=some (.lst J))
 (l:s.heap.get? p=some { cls:=.type "list",data:=.seq d.toArray n })(i:f { cls:=.type "list",data:=.seq d.toArray n }={ cls:=.type "list",data:=.seq c.toArray g })(r:z5 ys c)(k:ys.length<=sizeLine)(t:Nat) :
  Inv X U I (upd H p (.lst ys)) { s with heap:=s.heap.update p f,toks:=t }:=by
 have e:(s.heap.update p f).get? p=some { cls:=.type "list",data:=.seq c.toArray g }:=by
  rw[Heap.get?_update_self f l (by rw[i]<;>rfl),i]
 refine a.write (x:=p) (e:=p) (by rw[h];trivial) (.inl rfl) (λb u m q=>(Heap.get?_update_other _ _ (Ne.symm m)).trans q) ⟨_,e⟩ ?_;exact⟨k,c,g,r,e⟩
def MT:V->V->V->Hp->(Hp->Prop)->Prop:=λo i v H Q=>∃p J k j,o=.ref p/\i=.int k/\H p=some (.lst J)/\c6 J.length k=some j/\Q (upd H p (.lst (J.set j v)))
def set_list:t6 X MT:=by
 intro U s I H o i v D E u Q a y z x h;obtain⟨p,J,k,j,rfl,rfl,l,A,q⟩:=h;cases y;obtain⟨t,rfl⟩:=z;obtain⟨b,n,r,e,F⟩:=a.lst l;obtain⟨c,K,C,B⟩:=ZL A;have f:=r.length;have G:=zU;have w:Inv X U I (upd H p (.lst (J.set j v))) { s with heap:=s.heap.update p (Obj.mapSeq (·.setIfInBounds j u)) } :=
  a.lstUpd l e (Xp b n j u) (r.set x j) (by rwa[VT]) s.toks
 by_cases d:0<=k
 .have g:k.toNat=j:=by
   rw[seqIndex_of d B]at c;exact Option.some.inj c
  exact PySem.W.ki_setAt e d wp (by rwa[aX,<- f]) (by rw[g];exact⟨_,w,q⟩)
 .have g:(k+(b.toArray.size:Int)).toNat=j:=by
   rw[seqIndex_neg (QY d) C]at c;rw[aX,<- f];exact Option.some.inj c
  exact PySem.W.ki_setBack e (QY d) (by rwa[aX,<- f]) wp (by rw[g];exact⟨_,w,q⟩)
def QK(lo hi:xo)(n:Nat):(sliceBounds lo hi none n).1=((HT.sIx n 0 lo:Nat):Int)/\(sliceBounds lo hi none n).2.1=((HT.sIx n n hi:Nat):Int)/\(sliceBounds lo hi none n).2.2=1:=by
 refine⟨?_,?_,rfl⟩
 .cases lo with
  |none=>simp[sliceBounds,HT.sIx]
  |some i =>
   simp only[sliceBounds,HT.sIx,getD_none,show(1:Int)>0 by decide,if_true];by_cases h:i<0
   .simp only[h,if_true]<;>lia
   .simp only[h,if_false]<;>lia
 .cases hi with
  |none=>simp[sliceBounds,HT.sIx]
  |some i =>
   simp only[sliceBounds,HT.sIx,getD_none,show(1:Int)>0 by decide,if_true];by_cases h:i<0
   .simp only[h,if_true]<;>lia
   .simp only[h,if_false]<;>lia
def O8(a:Θ)(lo hi:xo):slicePick a.toArray lo hi none=((a.drop (HT.sIx a.length 0 lo)).take (HT.sIx a.length a.length hi-HT.sIx a.length 0 lo)).toArray:=by
 obtain⟨d,c,b⟩:=QK lo hi a.toArray.size;unfold slicePick;rw[d,c,b];simp only[sliceRange_one,pick_run,aX]<;>rfl
def KL(K:Frag):V->xo->xo->Hp->VK->Prop:=λx lo hi H Q=>∃a J,x=.ref a/\SqL K H a J/\∀p,H p=none->Q (.ref p) (upd H p (.lst (ib J lo hi)))
def UO:SlR X (KL X.K):=by
 intro U s I H x v p n lo hi t Q c e l g f h;obtain⟨a,J,rfl,k,q⟩:=h;cases e;obtain⟨i,r,d,j⟩:=c.list k;have m:=r.length;refine⟨"list",_,slot_list_getitem.lookup,d.isList.typeIs,?_⟩;refine wpAny_getItem_list_slice d.isList l g f .none wr ?_ (by rw[aX]<;>lia);rw[O8,<- m];refine⟨.ref s.zs,_,c.laid (t':=s.toks) (o:=.lst (ib J lo hi)) (λb u q=>aH _ q) (aG _) ?_,rfl,q _ (c.hok.fresh (aG _))⟩;exact⟨aL (WL J lo hi) j,_,0,(r.drop (HT.sIx J.length 0 lo)).take (HT.sIx J.length J.length hi-HT.sIx J.length 0 lo),aW _ rfl⟩
def G2:V->V->Bool
 |.non,.non=>true
 |.bl a,.bl b=>a==b
 |.bl a,.int b=>(if a then 1 else 0)==b
 |.int a,.bl b=>a==(if b then 1 else 0)
 |.int a,.int b=>a==b
 |.str a,.str b=>a==b
 |_,_=>false
def QJ:kW X (.builtin "len") (λJ H Q=>∃p ys,J=[.ref p]/\(SqL X.K H p ys\/SqT X.K H p ys)/\Q (.int ys.length) H):=by
 intro U s I H J j Q a r h;obtain⟨p,ys,rfl,b,q⟩:=h;obtain⟨u,rfl,g⟩:=vals1 r;cases g;have k:=zU;rcases b with b|b
 .obtain⟨e,c,d,i⟩:=a.list b;have f:=c.length;exact Calls.call_len_list d.isList (by simp only[aX]<;>lia) ⟨.int ys.length,H,a.tok _,⟨s.toks+1,by rw[aX,f]⟩,q⟩
 .obtain⟨e,c,d,i⟩:=a.tuple b;have f:=c.length;exact len_tuple d (by simp only[aX]<;>lia) ⟨.int ys.length,H,a.tok _,⟨s.toks+1,by rw[aX,f]⟩,q⟩
def SM:kW X (.builtin "len") (λJ H Q=>∃z,J=[.str z]/\z.length<=sizeLine/\Q (.int z.length) H):=by
 intro U s I H J b Q a r h;obtain⟨z,rfl,c,q⟩:=h;obtain⟨u,rfl,t,rfl⟩:=vals1 r;have d:=zU;exact len_str wp ⟨.int z.length,H,a.tok _,⟨_,rfl⟩,q⟩
def Qw:kW X (.type "list") (λJ H Q=>∃p ys,J=[.ref p]/\(SqL X.K H p ys\/SqT X.K H p ys)/\∀l,H l=none->Q (.ref l) (upd H l (.lst ys))):=by
 intro U s I H J B Q a r h;obtain⟨p,ys,rfl,k,q⟩:=h;obtain⟨u,rfl,z⟩:=vals1 r;cases z;have y:∀(c:Θ),z5 ys c->ys.length<=sizeLine->∀(d:Heap)(g:Nat),(∀b v,s.heap.get? b=some v->d.get? b=some v) ->
   d.get? s.zs=some { cls:=.type "list",dict:=none,data:=.seq c.toArray g,slots:=#[] }->EP X U I Q (.ref s.zs) { s with heap:=d }:=λc f j d g i e =>
  ⟨.ref s.zs,_,a.laid (t':=s.toks) i (aG _) (show gM X.prog X.w _ d _ (.lst ys)from⟨j,c,g,f,e⟩),rfl,q _ (a.hok.fresh (aG _))⟩
 rcases k with k|k
 .obtain⟨c,f,m,j⟩:=a.list k;have A:=f.length;obtain⟨o,t,hc,n,hd⟩:=m.isList;exact call_list_seq p (.inl rfl) t hc hd (λd g i e=>y c f j d g i e) (by simp only[aX]<;>lia)
 .obtain⟨c,f,m,j⟩:=a.tuple k;have A:=f.length;obtain⟨o,t,hc,n,hd⟩:=m;exact call_list_seq p (.inr rfl) t hc hd (λd g i e=>y c f j d g i e) (by simp only[aX]<;>lia)
def p_(K:Frag)(T:String)(x:V)(H:Hp):Prop:=match x with
 |.str _=>T="str"
 |.int _=>T="int"
 |.ref p=>(T="list"/\∃J,SqL K H p J)\/(T="tuple"/\∃o,K.lookup p=some o/\o.cls=.type "tuple"/\o.dict=none) \/
   (T="dict"/\(∃a,H p=some (.dK a)))\/(T="set"/\∃S n,H p=some (.set S n))
 |_=>False
def P1{T:String}{x:V}{v:Value}(b:Inv X U I H s)(r:z4 x v)(g:p_ X.K T x H) :
  s.TypeIs v T/\∀a,v=.ref a->∃k,s.heap.get? a=some k/\k.dict=none:=by
 cases x with
 |str z =>
  obtain⟨t,rfl⟩:=r;cases(show T="str" from g);exact⟨typeIs_str s z t,λ_ e=>nomatch e⟩
 |int i =>
  obtain⟨t,rfl⟩:=r;cases(show T="int" from g);exact⟨typeIs_int s i t,λ_ e=>nomatch e⟩
 |ref p =>
  cases r;rcases g with⟨rfl,J,q⟩|⟨rfl,o,d,hc,hd⟩|⟨rfl,d⟩|⟨rfl,S,n,d⟩
  .obtain⟨m,_,j,_⟩:=b.list q;refine⟨j.isList.typeIs,λa e=>?_⟩;cases e;obtain⟨o,n,e,c,hd,_⟩:=j;exact⟨o,e,hd⟩
  .refine⟨⟨o,b.kIn p o d,hc⟩,λa e=>?_⟩;cases e;exact⟨o,b.kIn _ o d,hd⟩
  .have z:∃o,s.heap.get? p=some o/\o.ExactDict:=by
    obtain⟨l,d⟩:=d;obtain⟨_,_,_,_,o,_,_,e,f,_⟩:=b.hok p _ d;exact⟨o,e,f⟩
   obtain⟨o,e,f⟩:=z;refine⟨⟨o,e,f.1⟩,λa h=>?_⟩;cases h;exact⟨o,e,f.2.1⟩
  .obtain⟨o,_,_,_,e,f,_⟩:=b.hok p _ d;refine⟨⟨o,e,f.1⟩,λa h=>?_⟩;cases h;exact⟨o,e,f.2.1⟩
 |_=>exact False.elim g
def F5(K:Frag)(T:String)(r:V->Ζ->Hp->VK->Prop)(a:TE)(t:TA):TE:=λI H Q=>a I H λx Z=>p_ K T x Z/\t I Z λJ b=>r x J b Q
variable{o e:Expr}{es:xw}{to:TE}{t:TA}{name:Str}{ai af:Pos}{T id:String}{r:V->Ζ->Hp->VK->Prop}
abbrev ze(a b:Pos):Prop:=(a.endLine==b.line)=true
def pz(p:PlainAttrs T)(slot:Slot T name id)(u:typeOf (.builtin id)=pure (.type "method_descriptor"))(C:MtR X id r)(B:PE X o to)(D:PA X (e::es) t)
 (w:zo X o name:=by rfl)
 (q:((backTo af (starEach (e::es) X.env)).all (λx=>!x.1)&&(backToKw af (keywordEach [] X.env)).all (λx=>x.1.isSome)
   && decide ((e::es).length+([] : wq).length+(if([] : wq).isEmpty then 0 else 1)<30))=true:=by rfl)
 (y:ze ai af:=by rfl)(A:qS X e es:=by rfl)(z:qE X af es:=by rfl) :
  PE X (.Call (.Attribute o name ai) (e::es) [] af) (F5 X.K T r to t):=by
 intro U s I H Q a h;refine wpAny_Call_method_late w q y rfl (ah (B U s I H _ a h) λv l b=>?_);obtain⟨x,Z,f,c,j,n⟩:=b;obtain⟨F,E⟩:=P1 f c j;refine⟨T,id,p,slot,u,F,E,?_⟩;have d:=D af U l I Z _ f n;rw[A]at d ⊢;refine Calls.callWith_builtin (by show(false || (backTo af (starEach es X.env)).any (·.1))=false;rw[z]<;>rfl) (Calls.evalArgs_plain ?_);exact ah d λi k b=>by obtain⟨g,J,G,m,q2⟩:=b;exact C U k I J x g v i Q G c m q2

end
def mh(X:Cx)(id:String)(r:V->Ζ->Hp->VK->Prop):Prop :=
 ∀(U:Δ)(s:Shared)(I:St)(H:Hp)(x:V)(J:Ζ)(v:Value)(a:Θ)(Q:VK),Inv X U I H s->z4 x v->z5 J a->r x J H Q ->
  wpAny (model X.prog X.w) X.A (call (.builtin id) (v::a)) (EP X U I Q) X.xe s
def z5.one:∀{x:V}{a:Θ},z5 [x] a->∃u,a=[u]/\z4 x u
 |_,_,.cons r .nil=>⟨_,rfl,r⟩
def z5.two{x y:V}{a:Θ}(h:z5 [x,y] a):∃u v,a=[u,v]/\z4 x u/\z4 y v:=by
 cases h with|cons r t=>cases t with|cons q t=>cases t;exact⟨_,_,rfl,r,q⟩
theorem z5.rep{J:Ζ}{a:Θ}(h:z5 J a):∀k:Nat,z5 (replicate k J).flatten (replicate k a).flatten
 |0=>.nil
 |k+1=>by
  rw[replicate_succ,replicate_succ,flatten_cons,flatten_cons];exact z5.append h (z5.rep h k)
theorem foldl_rep(a:Θ):∀(k:Nat)(b:Θ),
  List.foldl (λd c=>d++c) b.toArray (replicate k a.toArray)=(b++(replicate k a).flatten).toArray
 |0,b=>by simp
 |k+1,b=>by
  have e:b.toArray++a.toArray=(b++a).toArray:=by simp
  have f:(b++a)++(replicate k a).flatten=b++(replicate (k+1) a).flatten:=by
   rw[replicate_succ,flatten_cons,WV]
  rw[<- f,<- foldl_rep a k (b++a),<- e,replicate_succ,foldl_cons]
def Inv.lset{b its':Θ}{f:xI->xI}{d:Nat}(a:Inv X U I H s)(m:H l=some (.lst J))
 (e:s.heap.get? l=some { cls:=.type "list",data:=.seq b.toArray n })(j:f b.toArray=its'.toArray)(h:z5 ys its')(g:ys.length<=sizeLine) :
  Inv X U I (upd H l (.lst ys)) { s with heap:=s.heap.update l (Obj.mapSeq f),toks:=d }:=by
 have q:=PySem.IsL.update e f;rw[j]at q;refine a.write (x:=l) (e:=l) (by rw[m];exact trivial) (.inl rfl) (λo u k i=>(Heap.get?_update_other s.heap (Obj.mapSeq f) (Ne.symm k)).trans i) ⟨_,q⟩ ?_;exact⟨g,its',_,h,q⟩
def Inv.lnew{its:Θ}{t':Nat}(a:Inv X U I H s)(d:z5 ys its)(c:ys.length<=sizeLine) :
  Inv X U I (upd H s.zs (.lst ys)) { s with heap:=s.heap.push { cls:=.type "list",data:=.seq its.toArray },toks:=t' } :=
 a.laid (λ_ _ q=>aH _ q) (aG _) ⟨c,its,0,d,aW _ rfl⟩
def Inv.fresh(a:Inv X U I H s):H s.zs=none:=a.hok.fresh (aG _)
def Inv.lstM(a:Inv X U I H s)(c:H l=some (.lst J)):J.length<=sizeLine/\∃(b:Θ)(n:Nat),z5 J b/\J.length=b.length/\s.heap.get? l=some { cls:=.type "list",data:=.seq b.toArray n }:=by
 obtain⟨z,b,n,r,e⟩:=a.hok l _ c;exact⟨z,b,n,r,r.length,e⟩
def ab0(h:n<=sizeLine):Builtin.List.listTooLong n=false:=by
 unfold Builtin.List.listTooLong;exact Zp (JY h)
def Y':V->Ζ->Hp->VK->Prop:=λx a H Q=>∃l J y,x=.ref l/\a=[y]/\H l=some (.lst J)/\J.length<sizeLine/\Q .non (upd H l (.lst (J++[y])))
def Qj:mh X "list.append" Y':=by
 intro U s I H x i v j Q a d f h;obtain⟨l,J,y,rfl,rfl,c,k,q⟩:=h;cases d;obtain⟨u,rfl,g⟩:=f.one;obtain⟨z,b,n,r,m,e⟩:=a.lstM c;refine call_meets F.slot_list_append ⟨_,e,rfl⟩ F.entry_list_append (F.args_list_append_2 _ _) (PySem.list_append l b.toArray n u (by rw[aX];lia)) ⟨e,?_⟩;refine⟨.non,_,a.lset (its':=b++[u]) c e wr (r.append (.cons g .nil)) ?_,rfl,q⟩;rwa[aA,length_singleton]
def LP:R2:=λx y H Q=>∃l b J a,x=.ref l/\y=.ref b/\H l=some (.lst J)/\H b=some (.lst a)/\J.length+a.length<=sizeLine/\∀p,H p=none->Q (.ref p) (upd H p (.lst (J++a)))
def Sj:OpR X (binaryOp .Add) LP:=by
 intro U s I H x y v u Q a g f h;obtain⟨l,b,J,t,rfl,rfl,k,m,B,q⟩:=h;cases g;cases f;obtain⟨z,c,n,r,C,e⟩:=a.lstM k;obtain⟨w,d,A,i,j,p⟩:=a.lstM m;refine PySem.P.add_list e p ?_ (by rw[aX,aX];lia);have o:c.toArray++d.toArray=(c++d).toArray:=by simp
 rw[o];exact⟨.ref _,_,a.lnew (t':=s.toks) (r.append i) (by rw[aA];omega),rfl,q _ a.fresh⟩
def HC:R2:=λx y H Q=>∃l k J,x=.ref l/\y=.int k/\H l=some (.lst J)/\-(2^63)<=k/\k<2^63/\J.length*k.toNat<=sizeLine /\
 ∀p,H p=none->Q (.ref p) (upd H p (.lst (replicate k.toNat J).flatten))
def len_rep(J:List α)(k:Nat):(replicate k J).flatten.length=k*J.length:=by
 induction k with
 |zero=>simp
 |succ k a=>rw[replicate_succ,flatten_cons,aA,a,Nat.succ_mul,Nat.add_comm]
def OW:OpR X (binaryOp .Mult) HC:=by
 intro U s I H x y v u Q b j i h;obtain⟨l,k,J,rfl,rfl,C,E,D,M,q⟩:=h;cases j;obtain⟨t,rfl⟩:=i;obtain⟨z,c,n,r,B,e⟩:=b.lstM C;have K:c.toArray.size*k.toNat<=sizeLine:=by rwa[aX,<- B]
 have o:¬c.toArray.size*k.toNat>(2^63-1)/8:=by
  have:(sizeLine:Nat)<=(2^63-1)/8:=by decide
  lia
 have w:¬(!Builtin.List.listFitsIndex k)=true:=by
  rw[fitsIndex_both E D];exact bw
 have A:¬Builtin.List.listTooLong (c.toArray.size*k.toNat)=true:=by
  rw[ab0 K];exact bw
 have p:List.foldl (λf d=>f++d) #[] (replicate (if c.toArray.isEmpty=true then 0 else k.toNat) c.toArray)=(replicate k.toNat c).flatten.toArray:=by
  have G:∀m:Nat,List.foldl (λf d=>f++d) #[] (replicate m c.toArray)=(replicate m c).flatten.toArray:=λm=>by
   have:=foldl_rep c m [];rw[List.nil_append]at this;exact this
  rw[G];cases c with
  |nil=>simp
  |cons a L=>rw[ZZ wr]
 refine wpAny_binaryOp_repeat_ref (T:="list") (U:="int") wf ⟨_,e,rfl⟩ (λg=>typeIs_int g k t) noFill_list_mul F.fills_int_mul F.slot_int_rmul repeat_list F.slot_int_index.lookup
  (call_meets F.slot_int_rmul (typeIs_int s k t) F.entry_int_rmul (F.args_int_rmul_2 _ _) (int___rmul___int_list k t l c.toArray n)
   ⟨e,rfl,⟨_,e,rfl⟩,call_meets F.slot_list_mul ⟨_,e,rfl⟩ F.entry_list_mul (F.args_list_mul_2 _ _) (AutoListH.list___mul___list_int_3 l c.toArray n k t w o A) ⟨e,?_⟩⟩)
 rw[p];exact⟨.ref _,_,b.lnew (t':=s.toks) (r.rep k.toNat) (by rwa[len_rep,JU]),rfl,q _ b.fresh⟩
end L2
namespace Att
open PySem PySem.W PySem.Calls PyProof.Rows
def Ju{P:Params}{h:Heap} : ∀(c:xm)(d:Θ),WellAll P h d (c.map WData.int)->IntsAre d c:=by
 intro c
 induction c with
 |nil =>
  intro d w;rw[map_nil]at w;cases w;exact .nil
 |cons n c e =>
  intro d w;rw[map_cons]at w;cases w with
  |cons a b =>
   cases a;exact .cons _ _ (e _ b)
variable{l:OpenLaw}
def aaV{n:Nat}(u:l.most=some n){P:Params}{h:Heap}{b:List WData}{i:Θ}
 (j:l.row.toRowW.claim.pre b)(p:WellAll P h i b) :
  ∃a g c,i=[Value.ref a]/\b=[WData.list (c.map WData.int)]/\h.get? a=some { cls:=.type "list",data:=.seq g.toArray }/\IntsAre g c/\c.length<=n:=by
 have v:WShape.hasAll [] b [.list .int]:=(pre_splitW j).1;have hc:l.pre.holds [] { args:=b }:=(pre_splitW j).2;obtain⟨d,r,rfl,y,x⟩:=hasAllW_cons v;obtain rfl:=hasAllW_nil x;obtain⟨J,rfl,w⟩:=hasW_list y;obtain⟨c,rfl⟩:=items_int w;have z:c.length<=n:=by
  unfold OpenLaw.pre at hc;have f:(WTm.not (.lt (.lit (.int (n:Int))) (.len (.arg 0)))).holds [] { args:=[.list (c.map .int)] }:=by
   have f:=(holds_andW hc).1;rw[u]at f;exact f
  have e:=condW_of f (w_not (w_lt w_lit (w_len_list (w_arg rfl))));rw[ak]at e;refine VS λq=>?_;have o:(n:Int)<((c.length:Nat):Int):=by omega
  first
   |(rw[Zs o]at e;exact absurd e wf)
   |(simp at e;omega)
 cases p with
 |cons m k =>
  cases k;cases m with
  |list t s=>exact⟨_,_,c,rfl,rfl,t,Ju c _ s,z⟩
def abd(l:OpenLaw)(a:List WData):l.row.toRowW.claim.post a (.bool true) a=true :=
 postW_of (r:=l.row.toRowW) (X:=(true==true))
  (show WShape.has [] (.bool true) .bool=true by first|rfl|decide|simp[WShape.has,WShape.arms,WShape.armsAll])
  (show(WTm.eq .res (.lit (.bool true))).value [] { args:=a,res:=some (.bool true),after:=a }=some (.bool (true==true))from w_eq_bool (w_res rfl) w_lit) rfl
def Jc{n:Nat}{q:Program}{e:Φ}{z:(Str->Ω)->Heap->Prop}{y:World->Heap->Prop}{d:DefRec}
 (F:l.most=some n)(B:d.params.defaults=[])
 (call:∀(w:World)(c b:Shared)(k s:Str->Ω)(h:Addr)(o:Obj)(p m t:Value)(a:Addr)(g:Θ)(j:xm),
   Ground q e [] z w c k s b.heap->y w b.heap ->
   b.heap.get? h=some o->o.data=.func (docDef d.name d.params d.body d.scope p m t)->b.heap.CodeRec m d.name->k d.name=some (.ref h) ->
   b.heap.get? a=some { cls:=.type "list",data:=.seq g.toArray }->IntsAre g j->j.length<=n->b.gens = #[] ->
   codeAny (model l.prog w) callerA (.call (.ref h) ⟨[.ref a],[]⟩) (λr i=>r=.ok (.ret (.bool true))/\OldK b.heap i.heap/\i.os=b.os/\AllBare i.gens) b) :
  WalkO q e z y l.row.toRowW d [] (λf g=>PySem.call f g):=by
 intro w c b k s G Y h o p m t Q kV E hd S v K J x U V P u C A I;obtain rfl:Q=.none:=Dflts.none v B;obtain rfl:kV=.none:=Dflts.noKw v;obtain⟨a,g,j,rfl,rfl,O,R,T⟩:=aaV F P A;refine enter_call (codeAny_mono (call w c b k s h o p m t a g j G Y E (fd_plain hd) S K O R T J) λr i D=>?_);obtain⟨rfl,N,M,L⟩:=D;exact⟨.inl ⟨.bool true,.bool true,[],rfl,λ_=>rfl,.bool true,abd l _,λ_=>⟨List.Pairwise.nil,λ_ H=>(nomatch H)⟩⟩,N,M,L⟩
end Att
namespace L2
open PySem PySem.Spec PyProof.Rows
theorem Bm:∀{a:Θ}{b:xm},IntsAre a b->z5 (b.map V.int) a
 |_,_,.nil=>.nil
 |_,_,.cons n t h=>.cons ⟨t,rfl⟩ (Bm h)
def Only(H:Hp):Prop:=∀b,H b=none\/∃o J,H b=some (.frz o (.lst J))
def ab9{P:Program}{w:World}{K:Frag}{p G:Str->Ω}{CX:eR}{k:Nat}{L a:Addr}{X:FuncData}{x:Str}{O:Sp}{c:Shared}{i:Θ}{l:xm}
 (KX:K.In c.heap)(dt:c.heap.Ns mainGlobals p)(f:c.heap.Ns builtinsNs G)(j1:∀x:Str,x≠"__name__"->G x=bootBuiltins x)(iO:c.heap.NoLimit)(hg:c.gens = #[])
 (D:c.heap.get? a=some { cls:=.type "list",data:=.seq i.toArray })(T:IntsAre i l)(S:l.length<=sizeLine)(hr:dY k callerA)
 (F:∀base:Heap,K.In base->base.Ns mainGlobals p->bW P w K p base CX k L X [x] O)(gu:∀(s:Shared)(u:Value),BindsTo s X ⟨[u],[]⟩ [(x,u)])
 (eB:∀H:Hp,Only H->SqL K H a (l.map V.int)->O [.ref a] H (λv _=>v=.bl true) λ_ _ _=>False)
 (kK:∀H e g,CX [] H c (λ_ _ _=>False) e g->False) :
  codeAny (model P w) callerA (.call (.ref L) ⟨[.ref a],[]⟩) (λr g=>r=.ok (.ret (.bool true))/\OldK c.heap g.heap/\g.os=c.os/\AllBare g.gens) c:=by
 have Q:=Bm T;have iE:=T.length

 have core:∀H:Hp,Only H->SqL K H a (l.map V.int)->HOk P w H c.heap->(∀b,H b≠none->b=a)->(H a≠none->K.lookup a=none) ->
   codeAny (model P w) callerA (.call (.ref L) ⟨[.ref a],[]⟩) (λr g=>r=.ok (.ret (.bool true))/\OldK c.heap g.heap/\g.os=c.os/\AllBare g.gens) c:=by
  intro H U hS y W hK;have ce:∀{b:Addr}{o:Obj},c.heap.get? b=some o->H b=none->(DK c.heap H).get? b=some o:=λe n=>Ws e n;have f6:∀{b:Addr}{o:Obj}{A:Array DictEntry}{B:Nat},c.heap.get? b=some o->o.data=.dict A B->H b=none:=λ{b o A B}e d=>by
   cases q:H b with
   |none=>rfl
   |some u =>
    have M:b=a:=W b (by rw[q];simp);subst M;rw[D]at e;cases e;have d':Data.seq i.toArray _=Data.dict A B:=d;cases d'
  have E:∀{b:Addr}{m:Str->Ω},c.heap.Ns b m->(DK c.heap H).Ns b m:=λ{b m}⟨o,A,B,e,d,r⟩=>⟨o,A,B,ce e (f6 e d),d,r⟩;have R:K.In (DK c.heap H):=λb o e=>ce (KX b o e) (by
   cases q:H b with
   |none=>rfl
   |some u =>
    have M:b=a:=W b (by rw[q];simp);subst M;rw[hK (by rw[q];simp)]at e;cases e)
  have hM:Mod K p (DK c.heap H):=⟨R,E dt,⟨G,E f,j1⟩,let⟨mc,h1,h2⟩:=iO;⟨mc,E h1,h2⟩⟩;have e0:Lh P w K p (DK c.heap H) callerA [] c H:=⟨rfl,hM,λb o e=>Y_ e,WG (PB _ _),trivial,λb f=>absurd (show b∈([] : Ψ)from f) wr,y,.of_eq hg⟩;refine codeAny_mono ((F _ R (E dt)).run callerA [] c H ⟨[.ref a],[]⟩ [.ref a] [.ref a] _ _ hr e0 (gu c (.ref a)) (.cons rfl .nil) (eB H U hS)) λr g h=>?_;cases r with
  |error e=>exact(kK H e g h).elim
  |ok fl =>
   cases fl with
   |next=>exact False.elim h
   |brk=>exact False.elim h
   |cont=>exact False.elim h
   |ret u =>
    obtain⟨v,Y,os,C,N,t,r',q⟩:=h;have q':v=.bl true:=q;subst q';obtain rfl:u=Value.bool true:=r';refine⟨rfl,OldK.of_keep λb o e=>?_,os,C⟩;cases q:H b with
    |none=>exact N.keep b o e q (by intro z;exact absurd (show b∈([] : Ψ)from z) wr) wr
    |some u =>
     rcases U b with z|⟨ob,J,z⟩
     .rw[q]at z;cases z
     .have z2:=N.frzs b ob _ z;obtain⟨Z,_⟩:=y b _ z;obtain⟨e2,_⟩:=t b _ z2;rw[e]at Z;cases Z;exact e2
 cases I:K.lookup a with
 |some o =>

  have e:=KX a o I;rw[D]at e;cases e;refine core (λ_=>none) (λ_=>.inl rfl) (.inr ⟨_,i.toArray,_,I,rfl,rfl,rfl,by rw[aX,iE];exact S,by simpa using Q⟩) (λb u z=>by have j:(none:Option HO)=some u:=z;cases j) (λb z=>absurd rfl z) λz=>absurd rfl z
 |none =>
  refine core (λb=>if b=a then some (.frz { cls:=.type "list",data:=.seq i.toArray } (.lst (l.map V.int)))else none) (λb=>?_) (.inl (.inr ⟨{ cls:=.type "list",data:=.seq i.toArray },ZY rfl⟩)) (λb u z=>?_) (λb z=>?_) λ_=>I
  .by_cases f:b=a
   .exact .inr ⟨_,_,ZY f⟩
   .exact .inl (ZZ f)
  .by_cases f:b=a
   .have j:=(ZY f).symm.trans z;cases j;subst f;exact⟨D,by rw[ak];exact S,i,_,Q,D⟩
   .have j:=(ZZ f).symm.trans z;cases j
  .by_cases f:b=a
   .exact f
   .exact absurd (ZZ f) z
abbrev KOf{K:Frag}{h:Heap}(_:K.In h):Frag:=K
def agG{l:PySem.W.OpenLaw}{n k:Nat}{q:Program}{c:Φ}{XP:(Str->Ω)->Heap->Prop}{C:World->Heap->Prop}{d:DefRec}{K:Params->Frag}{E:World->eR}{A:World->Sp}{x:Str}
 (N:l.most=some n)(L:n<=sizeLine)(J:d.params.defaults=[])(M:dY k callerA)
 (Q:∀(w:World)(h:Heap),C w h->(K w.params).In h)
 (F:∀(w:World)(i:Str->Ω)(p:Addr)(h:Heap),(K w.params).In h->h.Ns mainGlobals i->i d.name=some (.ref p) ->
   ∃t:FuncData,(∀(s:Shared)(u:Value),BindsTo s t ⟨[u],[]⟩ [(x,u)]) /\
    ∀base:Heap,(K w.params).In base->base.Ns mainGlobals i->bW l.prog w (K w.params) i base (E w) k p t [x] (A w))
 (eB:∀(w:World)(H:Hp)(a:Addr)(m:xm),m.length<=n->Only H->SqL (K w.params) H a (m.map V.int)->A w [.ref a] H (λv _=>v=.bl true) λ_ _ _=>False)
 (I:∀(w:World)(H:Hp)(s:Shared)(e:Value)(r:Shared),E w [] H s (λ_ _ _=>False) e r->False) :
  PySem.W.WalkO q c XP C l.row.toRowW d [] (λf y=>PySem.call f y):=by
 refine Att.Jc N J λw z j i mb p o pm cd bt a y m G Y ho hd a9 X Z d6 B O=>?_;have D:=Q w _ Y;obtain⟨t,P,U⟩:=F w i p _ D G.T.g X;exact ab9 D G.T.g G.T.b G.T.builtins G.T.nolimit O Z d6 (aL B L) M U P (λH S R=>eB w H a m B S R) λH e r=>I w H j e r
end L2

namespace L2
open PySem PySem.Spec PyProof.Rows
abbrev ab:eR:=λ_ _ _ _ _ _=>False
abbrev E0:XK:=λ_ _ _=>False
def Py{X:Cx} : Passes ab X E0:=λ_ _ _ _ _ _ _ h=>h.elim
structure Fun(K:Frag)(x qual:Str)(st:Stmt)(f:Addr)(fd:FuncData):Prop where
 ex:∃(oc:Value)(od:Ξ)(kV bt pm:Value)(an:Ξ)(ae ct:Value)(dQ:Array (Ω)),
  fd=PySem.W.fnOf x qual (h_ st) (dZ st) (bG st) .none kV bt pm an ae ct/\K.lookup f=some ⟨oc,od,.func fd,dQ⟩/\codeIn K ae qual
 kp:keepIn K (.ref f)
variable{P:Program}{w:World}{K:Frag}{mg:Str->Ω}{base:Heap}{x qual:Str}{st:Stmt}{f:Addr}{fd:FuncData}{ps:Φ}{sp:Sp}{oc pm:Value}{dQ:Array (Ω)}{A:Around}
def Fun.ok{N:Φ}{k:Nat}(F:Fun K x qual st f fd)(S:bK N ps (bG st))(d:∀b H Q E,sp b H Q E->b.length=ps.length)
 (j:∀(c:Value)(A:Around)(a:xt)(s:Shared)(H:Hp)(b:Ζ)(Q:VK)(E:XK),dY k (A.deeper (envOfC qual (bG st) s.zs f c))->sp b H Q E ->
   ∃t,PSs (Ls ab P w K mg base N qual (bG st) f c A a s H E).nox (dZ st) t/\t { nx:=λ_ Y=>Q .non Y,rt:=Q } (start N b) H):bW P w K mg base ab (k+1) f fd ps sp:=by
 obtain⟨oc,m,kV,o,pm,p,c,n,dQ,rfl,e,l⟩:=F.ex;refine CY e l S d λA a s H b Q E g i=>?_;obtain⟨t,h,q⟩:=j c A a s H b Q E g i;exact⟨t,h.nox,q⟩
def Xe{g e:Ξ}{kV d a b:Value}(l:K.lookup f=some ⟨oc,g,.func (PySem.W.fnOf x qual (h_ st) (dZ st) (bG st) .none kV d pm e a b),dQ⟩)
 (c:codeIn K a qual)(k:keepIn K (.ref f)):Fun K x qual st f (PySem.W.fnOf x qual (h_ st) (dZ st) (bG st) .none kV d pm e a b):=⟨⟨oc,g,kV,d,pm,e,a,b,dQ,rfl,l,c⟩,k⟩
def Cm{k:Nat}(a:dY k A):A.units+1<cLine:=Y3 (Nat.add_le_add_left (by decide:1<=64) _) a.units
def qZ(a:Scope)(x:Str):Bool:=(a.names.lookup x).any λk=>k == .local || k == .cell || k == .free
def OE{a:Scope}(h:qZ a x):kq a x:=by
 unfold qZ at h;unfold kq;cases e:a.names.lookup x with
 |none=>rw[e]at h;cases h
 |some k=>rw[e]at h;cases k<;>first|exact .inl rfl|exact .inr (.inl rfl)|exact .inr (.inr rfl)|cases h
variable{X:Cx}{N:Pos}{H Y:Hp}{a b:Addr}{J:Ζ}{prog:Program}{E:Ε}{s:Shared}{cx es:xw}{t:String}{e:Expr}{h:Heap}{O:Scope}{U:Δ}{I:L2.St}
abbrev n_X(X:Cx)(i:Nat)(x:Str):Prop:=X.N[i]?=some x/\qZ X.env.scope x/\qV x/\qB x
def pv(i:Nat)(b:n_X X i x:=by exact⟨rfl,rfl,wf,wf⟩):PE X (.Name x N) (oy i):=P3 b.1 (OE b.2.1) b.2.2.1 b.2.2.2
def KA{A B:Prop}(h:B):if false=true then A else B:=by
 rwa[ZZ bw]
def Lc{A B:Prop}(h:A):if true=true then A else B:=by
 rwa[ZY rfl]
def z0(H Y:Hp):Prop:=∀b o,H b=some o->Y b=some o
def z0.refl(H:Hp):z0 H H:=λ_ _ h=>h
def z0.trans{Z d:Hp}(a:z0 H Z)(b:z0 Z d):z0 H d:=λc o h=>b c o (a c o h)
def z0.free(e:z0 H Y){l:Addr}(h:Y l=Option.none):H l=Option.none:=by
 cases q:H l with
 |none=>rfl
 |some o =>
  rw[e l o q]at h;cases h
def z0.seq(e:z0 H Y)(h:SqL K H a J):SqL K Y a J:=by
 rcases h with(h|⟨o,h⟩)|h
 .exact .inl (.inl (e _ _ h))
 .exact .inl (.inr ⟨o,e _ _ h⟩)
 .exact .inr h
def Bd(i:Int):Prop:=i.natAbs<2^8000
def Bd.log2{i:Int}(h:Bd i):i.natAbs.log2<8000:=by
 by_cases a:i.natAbs=0
 .rw[a,Nat.log2_zero];exact TU _
 .exact(Nat.log2_lt a).mpr h
def Bd.bits{i:Int}(h:Bd i):Builtin.Int.intBits i<=2^20:=by
 have e:(2:Nat)^20=1048576:=by decide
 have:=h.log2;unfold Builtin.Int.intBits;split
 .exact aZ _
 .lia
def _3:OpR X (binaryOp .Mult) (rI (λi j=>Bd i/\Bd j) λi j=>.int (i*j)):=iR λ_ _ _ _ _ _ _ a q=>mul_int q (.of_bits a.1.bits a.2.bits)
def abT:OpR X (binaryOp .FloorDiv) (rI (λ_ j=>j≠0/\Bd j) λi j=>.int (i.fdiv j)):=iR λ_ _ _ _ _ _ _ a q=>floordiv_int a.1 q (.inl (PyProof.noPylong_of_log2 (by have:=a.2.log2;exact UU this wf)))
def U9:kW X (.builtin "isinstance") (λJ H Q=>∃x c d t b,J=[x,c]/\((∃T,c=.ty T/\d=Value.type T)\/∃C,c=.ref C/\d=Value.ref C)/\Ik X.K H x t/\kitOne X.K t d=some b/\Q (.bl b) H):=by
 intro U s I H J l Q a r h;obtain⟨x,c,d,t,b,rfl,j,g,e,q⟩:=h;obtain⟨u,v,rfl,i,f⟩:=r.two;have k:v=d:=by
  rcases j with⟨T,rfl,rfl⟩|⟨T,rfl,rfl⟩
  .exact f
  .exact f
 subst k;exact aby a i g e λm=>⟨.bl b,H,a.tok _,rfl,q⟩
def Vk:kW X (.builtin "sorted") (λJ H Q=>∃l g,J=[.ref l]/\SqL X.K H l (g.map V.int)/\g.length<64/\∀(i:xm)p,H p=none->i.Perm g->i.Pairwise (· <= ·)->Q (.ref p) (upd H p (.lst (i.map V.int)))):=by
 intro U s I H J C Q c r h;obtain⟨l,g,rfl,w,j,q⟩:=h;obtain⟨u,rfl,t⟩:=r.one;cases t;obtain⟨d,k,p,m⟩:=c.list w;have y:=intsAre_of k;have z:d.length=g.length:=by have:=k.length;simpa using this.symm
 refine sorted_ints (vs:=d) p.isList y (Y3 (WG z) j) λout f B n A=>?_;obtain⟨e,x⟩:=sortedAll_at s.heap d out;have v:H (s.zs+1)=none:=c.hok.fresh (Xs _);refine⟨.ref _,_,c.laid (a:=s.zs+1) (o:=.lst (f.map V.int)) (t':=s.toks) (λb u e=>sortedAll_old e) (Xs _) ?_,rfl,q f _ v n A⟩;refine⟨?_,out.toList,e,Bm B,x⟩;rw[ak,n.length_eq];rw[ak]at m;exact m
theorem Pu{d t:Addr}{a:xI}(m:t≠d):∀(n i:Nat)(s:Shared)(Q:Θ->Shared->Prop),s.heap.IsListIter d t i->PlainL s.heap t a->i+n<=a.size ->
  (∀j,j.IsListIter d t (i+n)->Heap.SameBut d s.heap j->Q ((a.toList.drop i).take n) { s with heap:=j })->wpAny (model prog w) A (draw (.ref d) n) Q E s
 |0,i,s,Q,c,_,_,h=>by
  show wpAny _ _ (pure []) Q E s;exact ZT (by simpa using h s.heap c (Heap.SameBut.refl ..))
 |n+1,i,s,Q,c,p,z,h=>by
  have u:i<a.size:=by lia
  show wpAny _ _ (pyNext (.ref d) >>= _) Q E s;refine ZU (wpAny_pyNext_list_item c p.isList (x:=a[i]) (by simp[u]) λg y l=>?_);have v:PlainL g t a:=by
   obtain⟨o,k,e,r⟩:=p;exact⟨o,k,(l.2 t m).trans e,r⟩
  refine ZU (wpAny_holding (Pu m n (i+1) _ _ y v wp λf B b=>ZT ?_));have hd:a.toList.drop i=a[i]::a.toList.drop (i+1):=by simp[ka,u]
  have:=h f (by rwa[show i+(n+1)=i+1+n by lia]) (l.trans b);rw[hd,List.take_succ_cons]at this;exact this
def HD{t:Addr}{a:xI}{Q:Θ->Shared->Prop}(x:A.handled=none)(h:PlainL s.heap t a)
 (y:∀m,Heap.ExtBut s.zs s.heap m->Q a.toList { s with heap:=m }):wpAny (model prog w) A (unpackItems (.ref t) a.size none) Q E s:=by
 have n:t≠s.zs:=by obtain⟨o,_,v,_⟩:=h;exact aQ (aK v)
 unfold unpackItems;refine ZU ?_
 .unfold notIterableAtAll;refine ZU (wpAny_specialOf h.isList.typeIs slot_list_iter.lookup ?_);refine ZT ?_;simp only[XW,if_false];refine ZU (wpAny_holding (wpAny_pyIter_list h.isList ?_));have g:PlainL (s.heap.push { cls:=.type "list_iterator",data:=.fields #[.ref t,.int 0 0] }) t a:=by
   obtain⟨o,k,e,r⟩:=h;exact⟨o,k,aH _ e,r⟩
  refine ZU (wpAny_holding (Pu n a.size 0 _ _ ⟨_,aW _ rfl,rfl,rfl⟩ g wp λf q i=>?_));have u:List.take a.size (List.drop 0 a.toList)=a.toList:=by
   rw[drop_zero];exact lI wr
  rw[u];rw[ZZ wr];have p:PlainL f t a:=by
   obtain⟨o,k,e,r⟩:=g;exact⟨o,k,(i.2 t n).trans e,r⟩
  refine ZU (wpAny_holding (wpAny_pyNext_list_end x q p.isList wr λd c=>?_));simp only[Option.isSome_none,XW,if_false];refine ZT (y d λb o l e=>c b o l (i.extBut b o l (aH _ e)))
def Gk{env:Env}{d}{t:Addr}{a:xI}{Q:Unit->Shared->Prop}(i:A.handled=none)(f:PlainL s.heap t a)
 (g:(assignEach cx env).length=a.size)(e:(assignEach cx env).findIdx? (·.1)=none)
 (h:∀c,Heap.ExtBut s.zs s.heap c->wpAny (model prog w) A (assignInOrder ((assignEach cx env).map (·.2)) a.toList) Q E { s with heap:=c }) :
  wpAny (model prog w) A (assign (.Tuple cx d N) env (.ref t)) Q E s:=by
 rw[assign_Tuple];refine ZU (wpAny_standAt ?_);unfold unpack;rw[g,e];exact ZU (wpAny_holding (HD i f h))
def LX(K:Frag)(n:Nat)(t:f7):TG:=λv I H Q=>∃a J,v=.ref a/\SqL K H a J/\J.length=n/\t J I H Q
def _4{k:Nat}{t:f7}{n:Nat}(hc:X.calm)(h:PGs X es t)
 (m:(assignEach es X.env).length=n:=by rfl)(x:zi X es:=by rfl):PG X (.Tuple es k N) (LX X.K n t):=by
 intro U s I H v u Q c r hw;obtain⟨a,J,w,l,p,hw⟩:=hw;subst w;cases r;obtain⟨g,d,j,z⟩:=c.list l;refine Gk (c.ok.hd hc) j (by simp[m,<- p,d.length]) x λq i=>?_;have y:Inv X U I H { s with heap:=q }:=c.kept (t':=s.toks) λb o e=>i b o (aQ (aK e)) e;exact h U _ I H J _ Q y (by simpa using d) hw
def z0.upd{H:Hp}{p:Addr}{o:HO}(a:H p=none):z0 H (upd H p o):=λb u e=>by
 rw[cA (jP e a)];exact e
def IxR.imp{r c:R2}(h:IxR X r)(i:∀x y H Q,c x y H Q->r x y H Q):IxR X c:=by
 intro b N U s I H x y v u Q a e d q f;exact h _ _ _ _ _ _ _ _ _ _ _ a e d (i _ _ _ _ q) f
def kW.imp{f:Value}{r b:Ζ->Hp->VK->Prop}(h:kW X f r)(i:∀J H Q,b J H Q->r J H Q):kW X f b:=λU s I H J c Q a d q=>h U s I H J c Q a d (i _ _ _ q)
def mu(H:Hp):V->Option String
 |.non=>some "NoneType"
 |.bl _=>some "bool"
 |.int _=>some "int"
 |.str _=>some "str"
 |.ref a=>match H a with
  |some (.lst _)=>some "list"
  |some (.tup _)=>some "tuple"
  |some (.dK _)=>some "dict"
  |_=>none
 |_=>none
def Q'{x:V}(h:mu H x=some t):Ik K H x (.type t):=by
 cases x with
 |non=>cases h;exact .non
 |bl=>cases h;exact .bl _
 |int=>cases h;exact .int _
 |str=>cases h;exact .str _
 |byt=>cases h
 |flt=>cases h
 |ty=>cases h
 |ref a =>
  have h:(match H a with
   |some (.lst _)=>some "list"
   |some (.tup _)=>some "tuple"
   |some (.dK _)=>some "dict"
   |_=>none)=some t:=h
  split at h
  .cases h;exact .lst (by assumption)
  .cases h;exact .tup (by assumption)
  .cases h;exact .dK (by assumption)
  .cases h
def QM(t T:String):Bool:=(t==T) || (t=="bool" && T=="int")
def Y0{T:String}(a:t∈["NoneType","bool","int","str","list","tuple","dict"])(b:T∈["bool","int","str","list","tuple","dict"]):kitOne K (.type t) (.type T)=some (QM t T):=by
 simp only[YU,US,or_false]at a b;rcases a with rfl|rfl|rfl|rfl|rfl|rfl|rfl<;>rcases b with rfl|rfl|rfl|rfl|rfl|rfl<;>with_unfolding_all rfl
def RC{x:V}(h:mu H x=some t):t∈["NoneType","bool","int","str","list","tuple","dict"]:=by
 cases x with
 |non=>cases h;decide
 |bl=>cases h;decide
 |int=>cases h;decide
 |str=>cases h;decide
 |byt=>cases h
 |flt=>cases h
 |ty=>cases h
 |ref a =>
  have h:(match H a with
   |some (.lst _)=>some "list"
   |some (.tup _)=>some "tuple"
   |some (.dK _)=>some "dict"
   |_=>none)=some t:=h
  split at h<;>cases h<;>decide
def Iq:Ζ->Hp->VK->Prop:=λJ H Q=>∃x T t,J=[x,.ty T]/\T∈["bool","int","str","list","tuple","dict"]/\mu H x=some t/\Q (.bl (QM t T)) H
def z9:kW X (.builtin "isinstance") Iq:=U9.imp λJ H Q e=>by obtain⟨x,T,t,a,b,c,d⟩:=e;exact⟨x,.ty T,.type T,.type t,_,a,.inl ⟨T,rfl,rfl⟩,Q' c,Y0 (RC c) b,d⟩
def PG.imp{t b:TG}(h:PG X e t)(i:∀v I H Q,b v I H Q->t v I H Q):PG X e b:=λU s I H v u Q a r q=>h U s I H v u Q a r (i _ _ _ _ q)
def Nl:Ζ->Hp->VK->Prop:=λJ H Q=>∃l a,J=[.ref l]/\H l=some (.lst (a.map V.int))/\a.length<64/\∀(b:xm)p,H p=none->b.Perm a->b.Pairwise (· <= ·)->Q (.ref p) (upd H p (.lst (b.map V.int)))
def abm:kW X (.builtin "sorted") Nl:=Vk.imp λJ H Q e=>by obtain⟨l,d,a,b,c⟩:=e;exact⟨l,d,a,.of b,c⟩
def dL(P:Program)(w:World)(K:Frag)(mg:Str->Ω)(base:Heap)(k:Nat)(x:Str)(ps:Φ)(sp:Sp):Prop :=
 ∃f fd,bW P w K mg base ab k f fd ps sp/\Binds K fd ps []/\mg x=some (.ref f)/\keepIn K (.ref f)
def cL(K:Frag)(mg:Str->Ω)(x:Str)(st:Stmt)(ps:Φ):Prop :=
 ∃f fd,Fun K x x st f fd/\(∀a:Θ,a.length=ps.length->bindArgs fd ⟨a,[]⟩=pure (ps.zip a))/\mg x=some (.ref f)
def cL.ok{k:Nat}(h:cL K mg x st ps)
 (d:∀f fd,Fun K x x st f fd->bW P w K mg base ab k f fd ps sp):dL P w K mg base k x ps sp:=by
 obtain⟨f,fd,a,b,c⟩:=h;exact⟨f,fd,d f fd a,.all b,c,a.kp⟩
def T'{j g:Ξ}{kV e b d:Value}(X:K.In h)(G:h.Ns mainGlobals mg)
 (a:nsIn K mainGlobals x=some (some (.ref f)))(l:K.lookup f=some ⟨oc,j,.func (PySem.W.fnOf x x (h_ st) (dZ st) (bG st) .none kV e pm g b d),dQ⟩)
 (c:codeIn K b x)(k:keepIn K (.ref f))
 (m:∀(kV e pm:Value)(g:Ξ)(b d:Value)(i:Θ),i.length=ps.length->bindArgs (PySem.W.fnOf x x (h_ st) (dZ st) (bG st) .none kV e pm g b d) ⟨i,[]⟩=pure (ps.zip i)):cL K mg x st ps :=
 ⟨f,_,Xe l c k,m kV e pm g b d,mg_of X G a⟩
section
variable{X:Cx}{p N:Pos}{e:Expr}{es:xw}{t:TA}{x:Str}{k:Nat}{ps:Φ}{sp:Sp}
def Xq(sp:Sp)(t:TA):TE:=λI H Q=>t I H λa Z=>sp a Z Q E0
def rK(G:dL X.prog X.w X.K X.mg X.base k x ps sp)(g:dY k X.A)(j:Gl X x)(m:PA X (e::es) t)(n:qV x:=by decide)
 (l:qS X e es:=by rfl)(o:qE X N es:=by rfl):PE X (.Call (.Name x p) (e::es) [] N) (Xq sp t):=by
 obtain⟨f,fd,F,b,i,d⟩:=G;intro U s I H Q a h;refine VI F g j i d b .nil Py m n l o U s I H Q a ?_;show t I H λc Z=>sp (c++[]) Z Q E0;simp only[append_nil];exact h
end
def Pm(a:Int):(if a<0 then -a else a)=((a.natAbs:Nat):Int):=by split<;>omega
def uU(a:Int){b:Int}(h:0<b):fdiv a b=a/b:=lL a (XY h)
def TrD(h base:Heap)(e:Addr)(b:Value)(d:Ξ)(f:Value):Prop :=
 ∃a c T oT W,h.get? e=some a/\(a.cls=b/\a.dict=d)/\a.data=.fields c/\c[1]?=some (.ref T)/\base.get? T=none/\T≠e/\h.get? T=some oT/\oT.data=.fields W/\W[3]?=some f
def ID(base:Heap)(l:xt)(e:Addr)(a:Value)(d:Ξ)(b:Value)(h:Heap):Prop :=
 base.StaysIn h/\base.get? e=none/\h.FunFrames base l/\TrD h base e a d b
structure Fly(P:Program)(w:World)(l:xt)(H:Hp)(s:Shared)(a:Addr)(C:Value)(Y:Hp)(s':Shared)(B:Heap)(d:Ξ):Prop where
 os:s'.os=s.os
 bare:AllBare s'.gens
 new:s.heap.get? a=none
 un:Un (ci l) [] H Y s.heap s'.heap
 hok:HOk P w Y s'.heap
 frf:∀b∈ci l,Y b=none
 fl:ID B l a C d .none s'.heap
 cov:∀b o,s'.heap.get? b=some o->b∉ci l->((∃u,s.heap.get? b=some u)\/∃u,Y b=some u)->B.get? b=some o
abbrev G':Θ:=[.type "ValueError",.type "Exception",.type "BaseException",.type "object"]
def aqk(K:Frag)(C:Addr):Prop:=excIn K C G' "ValueError.__new__"=true
def XO(a C:Addr)(d:Ξ):HO:=.ext λh=>∃o,h.get? a=some o/\o.cls=.ref C/\o.dict=d/\∃b,o.data=.fields b
def xY(a:xb):xN->xb->xb
 |[],b=>b
 |(n,k)::r,b=>xY a r (if k == .free then(n,(a.lookup n).getD 0)::b else b)
def W9{env:Env}(h:∀y∈O.names,y.2=.free->∃c,env.cells.lookup y.1=some c):closureFor O env=pure (xY env.cells O.names []):=by
 unfold closureFor;have o:∀(l:xN)(b:xb),(∀y∈l,y.2=.free->∃c,env.cells.lookup y.1=some c) ->
   (forIn l b (λ(x:Str×NameKind)(r:xb)=>if(x.2==NameKind.free)=true then(do let a <- cellOf env x.1;pure (ForInStep.yield ((x.1,a)::r)))else pure (ForInStep.yield r)):Sem (xb))=pure (xY env.cells l b):=by
  intro l
  induction l with
  |nil=>intro b _;rfl
  |cons y r g =>
   intro b f;obtain⟨n,k⟩:=y;rw[List.forIn_cons];by_cases i:k=.free
   .subst i;obtain⟨c,j⟩:=f (n,.free) aO rfl;have p:cellOf env n=pure c:=by unfold cellOf;rw[show env.cells.lookup n=some c from j]
    simp only[beq_self_eq_true,if_true,p,pure_bind];rw[g _ λz d=>f z (aJ _ d)];show pure _=pure (xY env.cells r (if(NameKind.free==NameKind.free)=true then(n,(env.cells.lookup n).getD 0)::b else b));rw[show env.cells.lookup n=some c from j]
    rfl
   .have m:(k==NameKind.free)=false:=by simpa using i
    simp only[m,XW,if_false,pure_bind];rw[g _ λz d=>f z (aJ _ d)];show pure _=pure (xY env.cells r (if(k==NameKind.free)=true then(n,(env.cells.lookup n).getD 0)::b else b));rw[m]
    rfl
 have e:=o O.names [] h;show(forIn O.names [] (λ(x:Str×NameKind)(r:xb)=>if(x.2==NameKind.free)=true then(do let a <- cellOf env x.1;pure (ForInStep.yield ((x.1,a)::r)))else pure (ForInStep.yield r)):Sem (xb)) >>= (λq=>pure q)=_;rw[e]
 rfl
theorem Vt{a:xb} : ∀{b:xN}{d:xb}{x:Str}{c:Addr},(∀y∈b,y.2=.free->∃c,a.lookup y.1=some c)->(x,c)∈xY a b d->(x,c)∈d\/a.lookup x=some c
 |[],_,_,_,_,h=>.inl h
 |(n,k)::r,d,x,c,g,h=>by
  unfold xY at h;rcases Vt (λy i=>g y (aJ _ i)) h with z|z
  .by_cases f:k=.free
   .subst f;simp only[beq_self_eq_true,if_true]at z;rcases YU.mp z with e|e
    .obtain⟨m,l⟩:=g (n,.free) aO rfl;cases e;rw[show a.lookup n=some m from l];exact .inr rfl
    .exact .inl e
   .have j:(k==NameKind.free)=false:=by simpa using f
    simp only[j,XW,if_false]at z;exact .inl z
  .exact .inr z
theorem V1{cells:xb} : ∀{a:xN}{acc:xb}{x:Str},((x,NameKind.free)∈a\/∃c,(x,c)∈acc)->∃c,(x,c)∈xY cells a acc
 |[],_,_,h=>by
  rcases h with h|h
  .cases h
  .exact h
 |(n,k)::r,acc,x,h=>by
  unfold xY;refine V1 ?_;rcases h with h|⟨c,h⟩
  .rcases YU.mp h with e|e
   .cases e;exact .inr ⟨_,by simp only[beq_self_eq_true,if_true];exact aO⟩
   .exact .inl e
  .refine .inr ⟨c,?_⟩;split
   .exact aJ _ h
   .exact h
theorem rY{a:Type}{x:Str}{c:a} : ∀{l:List (Str×a)},(x,c)∈l->∃f,l.lookup x=some f
 |(y,d)::r,h=>by
  rw[lookup_cons];cases b:x==y with
  |true=>exact⟨d,rfl⟩
  |false =>
   rcases YU.mp h with e|e
   .cases e;simp at b
   .exact rY e
def Inv.nostk'(a:Inv X U I H s)(d:b≠X.env.locals)(c:b∉X.fs):b∉ci X.stack:=λz=>by
 rcases YU.mp (a.stkSub b z)with e|e
 .exact d e
 .exact c e
theorem GP{env:Env} : ∀{a:xN}{y:Str},(a.map λ(n,k)=>if(k==NameKind.free&&env.scope.kind == .function&&env.kindOf n==some .cell)then(n,NameKind.cell)else(n,k)).lookup y=some .cell \/
  (a.map λ(n,k)=>if(k==NameKind.free&&env.scope.kind == .function&&env.kindOf n==some .cell)then(n,NameKind.cell)else(n,k)).lookup y=some .free->(∀z∈a,z.2≠.cell)->(y,NameKind.free)∈a
 |[],y,h,_=>by rcases h with h|h<;>cases h
 |(n,k)::r,y,h,hc=>by
  have e:=@GP env r y;simp only[map_cons]at h;by_cases b:(k==NameKind.free&&env.scope.kind == .function&&env.kindOf n==some .cell)
  .rw[ZY b]at h;simp only[lookup_cons]at h;cases c:y==n with
   |true =>
    have f:k=.free:=by
     simp only[and_eq_true,beq_iff_eq]at b;exact b.1.1
    have:y=n:=by simpa using c
    subst this f;exact aO
   |false =>
    rw[c]at h;exact aJ _ (e h λz d=>hc z (aJ _ d))
  .rw[ZZ b]at h;simp only[lookup_cons]at h;cases c:y==n with
   |true =>
    rw[c]at h;have:y=n:=by simpa using c
    subst this;rcases h with h|h
    .exact absurd (Option.some.inj h) (hc (y,k) aO)
    .have:k=.free:=Option.some.inj h;subst this;exact aO
   |false =>
    rw[c]at h;exact aJ _ (e h λz d=>hc z (aJ _ d))
def er:Ζ->Ζ->Bool
 |[],[]=>true
 |x::J,y::a=>G2 x y&&er J a
 |_,_=>false
def Inv.tupIs(b:Inv X U I H s)(h:H a=some (.tup J)):∃c,z5 J c/\IsTup s.heap a c.toArray/\s.heap.IsTuple a c.toArray:=by
 obtain⟨c,e,d,_⟩:=b.tuple (SqT.of h);exact⟨c,e,d,d⟩
def Inv.lstIs(b:Inv X U I H s)(h:H a=some (.lst J)):∃c,z5 J c/\s.heap.IsList a c.toArray:=by
 obtain⟨c,d,e,_⟩:=b.list (SqL.of h);exact⟨c,d,e.isList⟩
open PySem.SeqAt in
mutual
inductive Shows(H:Hp):V->PyData->Prop
 |non:Shows H .non .none
 |bl (b:Bool):Shows H (.bl b) (.bool b)
 |int (i:Int):Shows H (.int i) (.int i)
 |str (x:Str):Shows H (.str x) (.str x)
 |lst {a:Addr}{J:Ζ}{ds:xa} : H a=some (.lst J)->fY H J ds->Shows H (.ref a) (.list ds)
 |tup {a:Addr}{J:Ζ}{ds:xa} : H a=some (.tup J)->fY H J ds->Shows H (.ref a) (.tuple ds)
inductive fY(H:Hp):Ζ->xa->Prop
 |nil:fY H [] []
 |cons {x:V}{J:Ζ}{d:PyData}{ds:xa} : Shows H x d->fY H J ds->fY H (x::J) (d::ds)
end
mutual
theorem Shows.same{H Y:Hp}(S:z0 H Y):∀{x:V}{d:PyData},Shows H x d->Shows Y x d
 |_,_,.non=>.non
 |_,_,.bl b=>.bl b
 |_,_,.int i=>.int i
 |_,_,.str x=>.str x
 |_,_,.lst e h=>.lst (S _ _ e) (fY.same S h)
 |_,_,.tup e h=>.tup (S _ _ e) (fY.same S h)
theorem fY.same{H Y:Hp}(S:z0 H Y):∀{J:Ζ}{a:xa},fY H J a->fY Y J a
 |_,_,.nil=>.nil
 |_,_,.cons h t=>.cons (Shows.same S h) (fY.same S t)
end
theorem fY.ints(H:Hp):∀a:xm,fY H (a.map V.int) (a.map PyData.int)
 |[]=>.nil
 |n::a=>.cons (.int n) (fY.ints H a)
mutual
theorem Inv.reads(a:Inv X U I H s):∀{x:V}{d:PyData}{v:Value},Shows H x d->z4 x v->∃j,Reads s.heap v d j
 |_,_,_,.non,r=>by cases r;exact⟨_,.none⟩
 |_,_,_,.bl b,r=>by cases r;exact⟨_,.bool b⟩
 |_,_,_,.int i,r=>by obtain⟨t,rfl⟩:=r;exact⟨_,.int i t⟩
 |_,_,_,.str x,r=>by obtain⟨t,rfl⟩:=r;exact⟨_,.str x t⟩
 |_,_,_,.lst e h,r=>by
  cases r;obtain⟨f,c,⟨o,g,hc,n,hd⟩⟩:=a.lstIs e;obtain⟨j,q⟩:=Inv.readsAll a h c;exact⟨_,.list g hc hd q⟩
 |_,_,_,.tup e h,r=>by
  cases r;obtain⟨f,c,_,⟨o,g,hc,n,hd⟩⟩:=a.tupIs e;obtain⟨j,q⟩:=Inv.readsAll a h c;exact⟨_,.tuple g hc hd q⟩
theorem Inv.readsAll(c:Inv X U I H s):∀{J:Ζ}{e:xa}{d:Θ},fY H J e->z5 J d->∃j,ReadsAll s.heap d e j
 |_,_,_,.nil,r=>by cases r;exact⟨_,.nil⟩
 |_,_,_,.cons h t,r=>by
  cases r with
  |cons g f =>
   obtain⟨a,i⟩:=Inv.reads c h g;obtain⟨b,q2⟩:=Inv.readsAll c t f;exact⟨_,.cons i q2⟩
end
def LY:Ζ->Hp->VK->Prop:=λJ H Q=>∃(l:Addr)(a:xm),J=[.ref l]/\H l=some (.lst (a.map V.int))/\Q (.int a.sum) H
def aa3(hc:X.calm):kW X (.builtin "sum") LY:=by
 intro U s I H J m Q a r h;obtain⟨l,i,rfl,j,q⟩:=h;obtain⟨u,rfl,g⟩:=r.one;cases g;obtain⟨b,f,p⟩:=a.lstIs j;have d:=intsAre_of f;obtain⟨J,e⟩:=d.allInts.items;have c:=d.numsOf;rw[show b=b.toArray.toList from rfl,e,nums_intItems]at c;rw[e]at p;refine sum_intListG (a.ok.hd hc) p λt n o k=>⟨.int i.sum,H,a.kept k,?_,q⟩;rw[preSum_eq,lI wr,c];exact⟨_,rfl⟩
def tM(t:TE):TE:=λI H Q=>∃R:VK,t I H R/\∀x Y,R x Y->Q x Y
def F3(t:TA):TA:=λI H Q=>∃R:Ζ->Hp->Prop,t I H R/\∀x Y,R x Y->Q x Y
def PE.mono{a:Expr}{t:TE}(h:PE X a t):PE X a (tM t):=λU s I H Q b ⟨R,e,d⟩ =>
 ah (h U s I H R b e) λv g c=>by obtain⟨x,Y,f,r,q⟩:=c;exact⟨x,Y,f,r,d x Y q⟩
variable{t:TA}{ai af:Pos}{tg be iter:Expr}{v y:V}{tc:TT}{wi:TI}{te:TE}{ext:Addr->xb}{fn:Str->Bool}{aS:xw}{gt:TG}{o:xD}{u:Value}{kvs:xF}
def PA.mono(h:PA X es t):PA X es (F3 t):=λN U s I H Q a ⟨R,d,c⟩ =>
 ah (h N U s I H R a d) λv f b=>by obtain⟨x,Y,e,r,q⟩:=b;exact⟨x,Y,e,r,c x Y q⟩
def PE.imp{a:Expr}{t c:TE}(h:PE X a t)(i:∀I H Q,c I H Q->t I H Q):PE X a c:=λU s I H Q b q=>h U s I H Q b (i I H Q q)
def IZ(d:TE)(t:TA):TE:=λI H Q=>d I H λx Z=>∃l J,x=.ref l/\Z l=some (.lst J)/\t I Z λc b=>∃y a,c=[y]/\b l=some (.lst a)/\a.length<sizeLine/\Q .non (upd b l (.lst (a++[y])))
abbrev zk(X:Cx)(a:Pos)(e:Expr):Prop:=((backTo a (starEach [e] X.env)).all (λx=>!x.1)&&(backToKw a (keywordEach [] X.env)).all (λx=>x.1.isSome)&&decide ([e].length+([] : wq).length+(if([] : wq).isEmpty then 0 else 1)<30))=true
def EN{o:Expr}{a:TE}(j:PE X o a)(p:PA X [e] t)(n:attributeBase o "append" X.env (eval o X.env)=eval o X.env:=by rfl)
 (m:zk X af e:=by rfl)
 (k:ze ai af:=by rfl)(g:qS X e []:=by rfl)(i:qE X af []:=by rfl) :
  PE X (.Call (.Attribute o "append" ai) [e] [] af) (IZ a t):=by
 refine(pz PySem.F.plainAttrs_list PySem.F.slot_list_append PySem.F.type_list_append Qj j.mono p.mono n m k g i).imp λI H Q h=>?_;refine⟨_,h,?_⟩;rintro x Z ⟨l,J,rfl,f,r⟩;refine⟨.inl ⟨rfl,_,SqL.of f⟩,_,r,?_⟩;rintro s u ⟨y,b,rfl,d,c,q⟩;exact⟨l,b,y,rfl,rfl,d,c,q⟩
def P4:Ζ->Hp->VK->Prop:=λJ H Q=>∃p a,J=[.ref p]/\H p=some (.lst a)/\∀l,H l=none->Q (.ref l) (upd H l (.lst a))
def Yd:kW X (.type "list") P4:=Qw.imp λJ H Q e=>by obtain⟨p,d,a,b,c⟩:=e;exact⟨p,d,a,.inl (.of b),c⟩
mutual
theorem YX:∀a:xm,PyData.canLayAll0 (a.map PyData.int)
 |[]=>rfl
 |n::a=>by
  rw[map_cons];unfold PyData.canLayAll0;rw[YX a];rfl
end
inductive FL(H:Hp):Ζ->Γ->Prop
 |nil:FL H [] []
 |cons {p:Addr}{f:Β}{J:Ζ}{fs:Γ} : H p=some (.tup [.int f.1,.int f.2])->FL H J fs->FL H (.ref p::J) (f::fs)
def ml(x:Str):It:=⟨λi _=>i<x.cps.size,λi H v Y=>Y=H/\∃c,x.cps[i]?=some c/\v=.str ⟨#[c]⟩,λi _=>i=x.cps.size⟩
def Wf(d:Addr)(x:Str)(t:Tok)(l:String)(O : ["enumerate","zip","dict_itemiterator","dict_reverseitemiterator","odict_iterator","itertools.zip_longest","itertools.pairwise"].contains l=false)
 (W:∀A:Around,A.handled=none->Walks P w A d [d] [d] x.cps.size (SignAt x) (λi h=>h.IsStrIter d l x t i))
 (N:∀(A:Around)(i:Nat)(s:Shared)(Q:Ε)(E:Ε),s.heap.IsStrIter d l x t i->Q (.ref d) s->wpAny (model P w) A (pyIter (.ref d)) Q E s):Turn P w K tg (ml x) [d] d (λi h=>h.IsStrIter d l x t i) where
 mem:=by simp
 obj:=λi h st b f=>by
  have e:b=d:=by simpa using f
  subst e;obtain⟨o,g,_,hd⟩:=st;exact⟨o,g,λv z=>by rw[hd]at z;cases z⟩
 keep:=λi h n st k=>let⟨o,g,r⟩:=st;⟨o,k d wr o g,r⟩
 item:=by
  intro X B hw C hc i U s I H E a m st y;subst B hw C;obtain⟨L,J,Y,G,F,D⟩:=m d wr;refine(W X.A (a.ok.hd hc)).item i s _ _ y st λv n p S M q=>?_;obtain⟨c,u,R,rfl⟩:=S;have Z:Inv X U I H { s with heap:=n,toks:=p }:=a.turned (λb o f e=>q b o (by simpa using f) e) L J G F D;obtain⟨o,g,V,hd⟩:=id M;exact⟨_,rfl,U0 (s:={ s with heap:=n,toks:=p }) g V hd O ⟨.str ⟨#[c]⟩,H,Z,⟨u,rfl⟩,⟨rfl,c,R,rfl⟩,M,λb f=>(m b f).1⟩⟩
 done:=by
  intro X B hw C hc i U s I H E a m st y;subst B hw C;obtain⟨L,J,Y,G,F,D⟩:=m d wr;have T:i=x.cps.size:=y;subst T;exact(W X.A (a.ok.hd hc)).done s _ _ st λn p q=>⟨rfl,a.turned (λb o f e=>q b o (by simpa using f) e) L J G F D⟩
 self:=N
def HI(te:TE):TI:=λI H R=>te I H λv Z=>∃x,v=.str x/\R (ml x) Z
def PZ{l:Expr}{g:TE}(r:PE X l g):PI X tg l (HI g):=by
 intro U s I H R a h;refine ah (r U s I H _ a h) λv c w=>?_;obtain⟨x,Z,f,p,y,B,q⟩:=w;subst B;obtain⟨t,rfl⟩:=p;have n:∀b∈[c.zs],JK X U Z b:=λb u=>by
  have e:b=c.zs:=by simpa using u
  subst e;exact f.fpOk (aG _) (f.hok.fresh (aG _))
 have k:∀o:Obj,Inv X U I Z { c with heap:=c.heap.push o }:=λo=>f.kept (t':=c.toks) λb C z=>aH _ z;cases m:y.cps.all (· < 128)
 .exact wpAny_pyIter_wide m ⟨c.zs,[c.zs],_,ml y,Z,rfl,k _,Wf _ y t "str_iterator" wf (λA d=>Walks.strWide d _ y t) (λA i s Q E st h=>wpAny_pyIter_striter_wide st h),⟨_,aW _ rfl,rfl,rfl⟩,n,q⟩
 .exact wpAny_pyIter_ascii m ⟨c.zs,[c.zs],_,ml y,Z,rfl,k _,Wf _ y t "str_ascii_iterator" wf (λA d=>Walks.strAscii d _ y t) (λA i s Q E st h=>wpAny_pyIter_striter_ascii st h),⟨_,aW _ rfl,rfl,rfl⟩,n,q⟩
def Jk(x:Str)(lo a:xo):Str:=⟨((x.cps.toList.drop (HT.sIx x.length 0 lo)).take (HT.sIx x.length x.length a-HT.sIx x.length 0 lo)).toArray⟩
def strIdx(lo a:xo)(n:Nat):Builtin.Str.strSliceIndices lo a 1 n=(range (HT.sIx n n a-HT.sIx n 0 lo)).map (HT.sIx n 0 lo + ·):=by
 rw[<- sliceRange_one];unfold Builtin.Str.strSliceIndices;have b:∀(o:xo)(d:Nat),d<=n->(match o with
   |none=>(d:Int)
   |some i=>(let i:=if i<0 then i+(n:Int)else i;if(1:Int)>0 then max 0 (min i n)else max (-1) (min i (n-1))))=((HT.sIx n d o:Nat):Int):=by
  intro o d hd;cases o with
  |none=>rfl
  |some i =>
   simp only[HT.sIx,show(1:Int)>0 by decide,if_true];by_cases h:i<0
   .simp only[h,if_true]<;>lia
   .simp only[h,if_false]<;>lia
 have e:=b lo 0 (aZ _);have c:=b a n (aG _);simp only[show(1:Int)>0 by decide,if_true]at e c ⊢;rw[<- e,<- c]
 rfl
def _a(x:Str)(lo a:xo):(⟨((Builtin.Str.strSliceIndices lo a 1 x.length).filterMap (x.cps[·]?)).toArray⟩ : Str)=Jk x lo a:=by
 rw[strIdx,pick_run];rfl
def YB(x:Str)(lo a:xo)(h:(Builtin.Str.strSliceIndices lo a 1 x.length).length=x.length):Jk x lo a=x:=by
 rw[strIdx,ak,WH]at h;have d:=HT.ahr x.length x.length (aG _) a;unfold Jk;have b:x.length=x.cps.size:=rfl;have e:x.cps.toList.length=x.length:=by simp[b]
 by_cases z:x.length=0
 .have:x.cps.toList=[]:=List.length_eq_zero_iff.mp (Eq.trans e z);rw[this];obtain⟨⟨l⟩⟩:=x;simp at this;subst this;simp
 .have c:HT.sIx x.length 0 lo=0:=by lia
  rw[c,drop_zero,lI wp]
def LA:V->xo->xo->Hp->VK->Prop:=λx lo a H Q=>∃y,x=.str y/\y.length<=sizeLine/\Q (.str (Jk y lo a)) H
def part_of{v:Value}{o:xo}(h:IsPart v o):∃l:Option (Int×Tok),v=partValue l/\l.map (·.1)=o:=by
 cases h with
 |none=>exact⟨none,rfl,rfl⟩
 |int i t=>exact⟨some (i,t),rfl,rfl⟩
def P5{X:Cx} : SlR X LA:=by
 intro U s I H x v p o lo b r Q a d k g f h;obtain⟨y,rfl,i,q⟩:=h;obtain⟨t,rfl⟩:=d;obtain⟨l,rfl,n⟩:=part_of g;obtain⟨u,rfl,m⟩:=part_of f;refine⟨"str",_,F.slot_str_getitem.lookup,typeIs_str s y t,wpAny_getItem_str_slice (l:=l) (u:=u) (st:=none) k rfl ?_⟩;unfold sliceMade slicePicked;rw[n,m];split
 .rename_i j
  have c:=(Bool.and_eq_true_iff.mp j).2;rw[beq_iff_eq]at c;have e:=YB y lo b c;rw[e]at q;exact⟨.str y,H,a,⟨t,rfl⟩,q⟩
 .have e:=_a y lo b;refine⟨?_,.str (Jk y lo b),H,a.tok _,⟨s.toks,?_⟩,q⟩
  .refine aL ?_ i;refine aL (WG (ZH Str.length e)) ?_;show((y.cps.toList.drop _).take _).toArray.size<=y.cps.size;rw[aX,aY,TW,Array.length_toList];lia
  .rw[<- e];rfl
def NC:R2:=λx y H Q=>∃i j,x=.str i/\y=.str j/\i.length+j.length<=sizeLine/\Q (.str (i++j)) H
def YN:OpR X (binaryOp .Add) NC:=X8
def JI:R2:=λx y H Q=>∃i j,x=.str i/\y=.str j/\Q (.bl (!decide (j.cps.toList<i.cps.toList))) H
def Ps:OpR X (compareOp .LtE) JI:=by
 intro U s I H x y v u Q a c b h;obtain⟨i,j,rfl,rfl,q⟩:=h;obtain⟨t,rfl⟩:=c;obtain⟨d,rfl⟩:=b;exact PySem.P.le_str (dG a q rfl)
def OpR.imp{f:Value->Value->Sem Value}{r b:R2}(h:OpR X f r)(i:∀x y H Q,b x y H Q->r x y H Q):OpR X f b:=λU s I H x y v u Q a d c q=>h U s I H x y v u Q a d c (i _ _ _ _ q)
theorem Hq:∀{a:wx}{c:Θ},z5 (a.map V.bl) c->∀(i:Nat)(v:Value),c[i]?=some v->∃b,a[i]?=some b/\v=.bool b
 |[],_,.nil,i,v,h=>by cases i<;>cases h
 |b::a,_,.cons r t,0,v,h=>by
  rw[List.getElem?_cons_zero]at h;cases h;exact⟨b,rfl,r⟩
 |b::a,_,.cons r t,i+1,v,h=>by
  rw[List.getElem?_cons_succ]at h;exact Hq t i v h
def NG:Ζ->Hp->VK->Prop:=λJ H Q=>∃(l:Addr)(a:wx),J=[.ref l]/\H l=some (.lst (a.map V.bl))/\Q (.bl (a.all id)) H
theorem xV:∀a:wx,((range a.length).all λi=>(a[i]?).getD true)=a.all id
 |[]=>rfl
 |b::a=>by
  rw[length_cons,List.range_succ_eq_map,all_cons,all_map,all_cons];have:=xV a;simp only[Function.comp_def,List.getElem?_cons_succ,List.getElem?_cons_zero,getD_some,id]at this ⊢;rw[this]
def abe(hc:X.calm):kW X (.builtin "all") NG:=by
 intro U s I H J y Q a r h;obtain⟨l,d,rfl,n,q⟩:=h;obtain⟨u,rfl,k⟩:=r.one;cases k;obtain⟨c,f,p⟩:=a.lstIs n;have x:l<s.zs:=by obtain⟨_,e,_⟩:=p;exact aK e
 refine call_all_walk (wpAny_pyIter_list p ?_);refine⟨s.zs,[s.zs,l],[s.zs],c.toArray.size,_,_,λi=>(d[i]?).getD true,rfl,Walks.list (A:=X.A.in1) (a.ok.hd hc) _ l (aQ x) c.toArray,
  ⟨⟨_,aW _ rfl,rfl,rfl⟩,p.push _⟩,λi v z C D w g=>?_,λB j t=>?_⟩
 .obtain⟨b,e,rfl⟩:=Hq f i v (by simpa using w);simp only[e,getD_some]at g;exact wpAny_truthy_bool g
 .have e:((range c.toArray.size).all λi=>(d[i]?).getD true)=d.all id:=by
   rw[aX,<- f.length,ak];exact xV d
  refine⟨.bl (d.all id),H,a.kept (t':=j) λb o q=>t b o (λm=>?_) (aH _ q),?_,q⟩
  .rw[YR.mp m]at q;exact Wp _ (aK q)
  .rw[e];rfl
def F0(r:V->Ζ->Hp->VK->Prop)(b:TE)(t:TA):TE:=λI H Q=>b I H λx Z=>(∃y,x=.str y)/\t I Z λa c=>r x a c Q
def NI{o:Expr}{b:TE}{a:Str}{id:String}{r:V->Ζ->Hp->VK->Prop}(slot:Slot "str" a id)(c:typeOf (.builtin id)=pure (.type "method_descriptor"))(i:mh X id r)(g:PE X o b)(m:PA X [e] t)
 (l:zo X o a:=by rfl)
 (k:zk X af e:=by rfl)
 (j:ze ai af:=by rfl)(d:qS X e []:=by rfl)(f:qE X af []:=by rfl) :
  PE X (.Call (.Attribute o a ai) [e] [] af) (F0 r b t):=by
 refine(pz PySem.F.plainAttrs_str slot c i g.mono m l k j d f).imp λI H Q h=>?_;refine⟨_,h,?_⟩;rintro x Z ⟨⟨y,rfl⟩,n⟩;exact⟨rfl,n⟩
def _'(b:Gl X x)(a:∃u,X.mg x=some u/\z4 v u)(hd:qV x:=by decide):PE X (.Name x N) (tC v):=by
 obtain⟨u,d,c⟩:=a;exact Y9 b d c hd
def hid(y:Str):Str:=Str.ofString "?"++y
def PJ(J:Φ)(N:Φ):Φ:=N.map λy=>if y∈J then hid y else y
def Cx.compG(X:Cx)(a:Φ)(O:Scope)(J:Φ)(C:Addr)(s₀:Shared)(H₀:Hp)(ex:Ψ)(pn:Δ):Cx :=
 { X with env:=compEnvC O (xY X.env.cells O.names []) C X.env,N:=J++a,s₀:=s₀,H₀:=H₀,outer:=X.stack,ex:=ex,fn:=λ_=>false,pn:=pn,xe:=λ_ _=>False }
def PTs(X:Cx)(aS:xw)(tc:TT):Prop:=∀(U:Δ)(s:Shared)(I:L2.St)(H:Hp)(Q:Bool->Hp->Prop),Inv X U I H s->tc I H Q ->
 wpAny (model X.prog X.w) X.A (forIn aS true λc r=>if r=true then do let d <- isTrue c X.env (eval c X.env);pure (ForInStep.yield d)else pure (ForInStep.yield r)) (λb a=>∃Y,Inv X U I Y a/\Q b Y) X.xe s
def HK:TT:=λ_ H Q=>Q true H
def UA{X:Cx} : PTs X [] HK:=λ_ _ _ H _ I q=>wpAny_tests_nil ⟨H,I,q⟩
def XI{X:Cx}{c:Expr}(h:PT X c tc):PTs X [c] tc:=λU s I H Q a q=>wpAny_tests_one (h U s I H Q a q)
def uI(wi:TI)(n:Nat)(gt:TG)(tc:TT)(te:TE):TE:=λI H Q=>wi I H λJ Z=>∀D,Z D=none->∃W:Nat->Nat->Ζ->Hp->Prop,(∃m,W 0 m [] (upd Z D (.lst [])))/\∀i m c f,W i m c f ->
 (J.stop i f/\Q (.ref D) f)\/(J.go i f/\∀x Y,J.yld i f x Y->∀d:L2.St,d.length=n->gt x (d++I) Y λa k=>∃g:L2.St,g.length=n/\a=g++I/\tc a k λb j =>
  match b with
  |true=>te a j λy h=>c.length<sizeLine/\h D=some (.lst c)/\∃e,e<m/\W (i+1) e (c++[y]) (upd h D (.lst (c++[y])))
  |false=>∃e,e<m/\W (i+1) e c j)
def Cx.compE(X:Cx)(ext:Addr->xb)(fn:Str->Bool)(a:Φ)(O:Scope)(J:Φ)(C:Addr)(s₀:Shared)(H₀:Hp)(ex:Ψ)(pn:Δ):Cx :=
 { X with env:=compEnvC O (ext C++xY X.env.cells O.names []) C X.env,N:=J++a,s₀:=s₀,H₀:=H₀,outer:=X.stack,ex:=ex,fn:=fn,pn:=pn,xe:=λ_ _=>False }
structure Vh(X:Cx)(O:Scope)(J:Φ)(ext:Addr->xb)(fn:Str->Bool):Prop where
 new:∀{M:Model}{A:Around}{E:Ε}{s:Shared}{globals:Addr}{b9:xb}{qual:Str}{outer:Env}{Q:Env->Shared->Prop},(∀g,g.Ns s.zs (λx=>([] : xh).reverse.lookup x)->(∀y c,(ext s.zs).lookup y=some c->g.IsCell c none)->(∀b o,s.heap.get? b=some o->g.get? b=some o)->Q (newEnv O s.zs globals (ext s.zs++b9) qual none .none (some outer) builtinsNs) { s with heap:=g,toks:=s.toks+([] : xh).length }) ->
  wpAny M A (newFunctionEnv O globals b9 [] qual none .none (some outer)) Q E s
 up:∀C y c,(ext C).lookup y=some c->C<c
 one:∀C y z c,(ext C).lookup y=some c->(ext C).lookup z=some c->y=z
 nw:∀C y,fn y->∃c,(ext C).lookup y=some c
 off:∀C y,y∉J->(ext C).lookup y=none
 kd:∀C y,((relabel O X.env).names.lookup y=some .cell\/(relabel O X.env).names.lookup y=some .free)->(∃c,(ext C).lookup y=some c)\/(y,NameKind.free)∈O.names
def uA{X:Cx}{J:Φ}(f:O.kind=.function)(a:∀y∈O.names,y.2≠.cell):Vh X O J (λ_=>[]) (λ_=>false) :=
 ⟨λh=>wpAny_newFunctionEnv a (by intro y d;simp at d) (λg i c=>h g i (λ_ _ z=>(nomatch z)) λb o e=>(c.2 b (aQ (aK e))).trans (aH _ e)) f,λ_ _ _ z=>(nomatch z),λ_ _ _ _ z=>(nomatch z),λ_ _ z=>(nomatch z),λ_ _ _=>rfl,λ_ _ e=>.inr (GP e a)⟩
def Pb{use:Option (Value->Sem Unit)}{post:Ε}{Qv:VK}{pp:Pos}{J N':Φ}(E:Vh X O J ext fn)(hc:X.calm)(hJ:PJ J X.N=N')(c5:O.kind=.function)(dk:∀y∈O.names,y.2=.local->O.names.lookup y.1=some .local)
 (bP:∀y∈O.names,y.2=.free->X.env.kindOf y.1=some .cell\/X.env.kindOf y.1=some .free)(gi:∀y∈X.N,y∉J->(relabel O X.env).names.lookup y≠some .local)(hq:∀y∈X.N,y∈J->(relabel O X.env).names.lookup (hid y)=none)(hi:PI X tg iter wi)
 (hg:∀C x F ex pn,PG (X.compE ext fn N' O J C x F ex pn) tg gt)(ht:∀C x F ex pn,PTs (X.compE ext fn N' O J C x F ex pn) aS tc)(he:∀C x F ex pn,PE (X.compE ext fn N' O J C x F ex pn) be te)(hs:zg X iter)(f:Inv X U I H s)(h:uI wi J.length gt tc te I H Qv)
 (qh:∀(C D:Addr)(l:Hp)(s6:Shared)(m:Str->Ω)(fl:Flow),s6.heap.Ns C m->Inv X U I l s6->JK X U l C->Qv (.ref D) l->compPost (model X.prog X.w) X.A X.xe use post (.ref D) C (.ok fl) s6) :
  wpAny (model X.prog X.w) X.A (comprehension (.ListComp be [⟨tg,iter,aS,0⟩] O N) O X.env pp (newList []) false (eval iter X.env) use) post X.xe s:=by
 have jI:∀y∈O.names,y.2=.free->∃c,X.env.cells.lookup y.1=some c:=λy hy e=>f.ok.has y.1 (bP y hy e);refine wpAny_comprehension_free (use:=use) (Q:=post) rfl hs (W9 jI) c5 dk (ah (hi U s I H _ f h) λv s1 h1=>ah h1 λnL B h2=>?_);obtain⟨it,S,tn,a,H2,e,I2,T,g6,f2,R⟩:=h2;subst e;have nD:H2 B.zs=none:=I2.hok.fresh (aG _);obtain⟨W,⟨m0,w0⟩,fN⟩:=R B.zs nD;refine wpAny_newObj_type ?_ (by show 0<=sizeLine;exact aZ _);have t:Inv X U I (upd H2 B.zs (.lst [])) { B with heap:=B.heap.push { cls:=.type "list",dict:=none,data:=.seq ([] : Θ).toArray } }:=I2.lnew (t':=B.toks) (ys:=[]) (its:=[]) .nil (aZ _);have mT:∀b o,B.heap.get? b=some o->(B.heap.push { cls:=.type "list",dict:=none,data:=.seq ([] : Θ).toArray }).get? b=some o:=λb o e=>aH _ e;generalize hs3:({ B with heap:=B.heap.push { cls:=.type "list",dict:=none,data:=.seq ([] : Θ).toArray } } : Shared)=s3 at t ⊢;have i7:tn 0 s3.heap:=T.keep _ _ _ g6 λb _ o e=>by rw[<- hs3];exact mT b o e
 generalize hH3:upd H2 B.zs (.lst [])=H3 at t w0;have f3:∀b∈S,JK X U H3 b:=λb k=>by
  obtain⟨a1,a2⟩:=f2 b k;refine⟨?_,a2⟩;obtain⟨o,e,_⟩:=T.obj _ _ g6 b k;rwa[<- hH3,cA (aQ (aK e))]
 refine E.new λg dt fq kg=>?_;have clm:∀{y:Str}{c:Addr},(xY X.env.cells O.names []).lookup y=some c->X.env.cells.lookup y=some c:=λ{y c}e=>by
  rcases Vt jI (PySem.mem_of_lookup e)with z|z
  .cases z
  .exact z
 have hG:∀{y:Str},(ext s3.zs).lookup y=none->((relabel O X.env).names.lookup y=some .cell\/(relabel O X.env).names.lookup y=some .free)->(X.env.kindOf y=some .cell\/X.env.kindOf y=some .free)/\∃c,(ext s3.zs++xY X.env.cells O.names []).lookup y=some c/\X.env.cells.lookup y=some c:=λ{y}ny e=>by
  rcases E.kd s3.zs y e with⟨c,z⟩|z
  .rw[ny]at z;cases z
  .obtain⟨c,du⟩:=V1 (cells:=X.env.cells) (acc:=[]) (.inl z);obtain⟨c,du⟩:=rY du;exact⟨bP _ z rfl,c,by rw[kb,ny];exact du,clm du⟩
 have kN:∀{y:Str}{c:Addr},(ext s3.zs++xY X.env.cells O.names []).lookup y=some c->(ext s3.zs).lookup y=some c\/X.env.cells.lookup y=some c:=λ{y c}e=>by
  rw[kb]at e;cases hy:(ext s3.zs).lookup y with
  |some d=>rw[hy]at e;exact .inl e
  |none=>rw[hy]at e;exact .inr (clm e)
 have cll:∀{y z c},(ext s3.zs).lookup z=some c->¬X.env.cells.lookup y=some c:=λ{y z c}P e=>by
  obtain⟨v,o,h1,_⟩:=t.cell y c e;exact Wp _ (UU (aK h1) (E.up _ _ _ P))
 have nv:∀b∈S,b<s3.zs:=λb k=>by
  obtain⟨o,e,_⟩:=T.obj _ _ i7 b k;exact aK e
 have nst:∀b∈S,b∉ci X.stack:=λb k=>t.nostk' (f3 b k).2.1 (f3 b k).2.2.1;have cfp:∀b∈S,∀y c,(ext s3.zs++xY X.env.cells O.names []).lookup y=some c->c≠b:=λb k y c e=>by
  rcases kN e with z|z
  .exact UK (UU (nv b k) (E.up _ _ _ z))
  .exact(f3 b k).2.2.2.2.1 y c z
 generalize hX:X.compE ext fn N' O J s3.zs s3 H3 S (X.pn++U)=Y;have ok':Y.Ok:=by
  subst hX;exact⟨t.ok.mod,c5,t.ok.glob,t.ok.blt,aG _,λy z c h1 h2=>by
    rcases kN h1 with P|P<;>rcases kN h2 with e2|e2
    .exact E.one _ _ _ _ P e2
    .exact absurd e2 (cll P)
    .exact absurd P (cll e2)
    .exact t.ok.inj y z c P e2,λy hy=>by
    cases hz:(ext s3.zs).lookup y with
    |some c=>exact⟨c,List.lookup_append.trans (by rw[hz];rfl)⟩
    |none=>exact let⟨_,c,q,_⟩:=hG hz hy;⟨c,q⟩,λy c iX e=>by
    obtain⟨d,z⟩:=E.nw s3.zs y iX;have e:(ext s3.zs++xY X.env.cells O.names []).lookup y=some c:=e;rw[kb,z]at e;cases e;exact Y2 (E.up _ _ _ z),t.ok.hd,t.ok.frames,.inl rfl,
   λb k=>⟨aQ (nv b k),cfp b k⟩,t.bs,aL t.ok.bsz t.sz,λb o e k=>by
    rcases(f3 b k).2.2.2.1 with z|z
    .exact t.ok.noex b o e z
    .exact absurd (aR (aR (aK e) t.ok.bsz) z) (Wp _),nst,t.stack,t.stkFree⟩
 have J4:∀tk,Inv Y [] (replicate J.length none++I) H3 { s3 with heap:=g,toks:=tk }:=λtk=>by
  subst hX;refine⟨ok',rfl,t.bare,Un.kept kg,⟨_,dt,λi y v P e2 e3=>?_⟩,λy c e=>?_,t.hok.fresh (aG _),λy c e=>(kN e).elim (λz=>t.hok.fresh (Y2 (E.up _ _ _ z))) (t.freeC y c),λp hp=>?_,t.hok.kept kg,?_⟩
  .by_cases hin:i<J.length
   .rw[aF (by rwa[aN]),X1,ZY hin]at e2;cases e2
   .obtain⟨j,rfl⟩ : ∃j,i=J.length+j:=⟨i-J.length,by lia⟩;have e0:N'[j]?=some y:=by
     have P:(J++N')[J.length+j]?=some y:=P;rw[aD (X9 _ _)]at P;rw[show J.length+j-J.length=j by exact QU _ _]at P;exact P
    have mf:I[j]?=some (some v):=by
     rw[aD (by rw[aN];exact X9 _ _),aN]at e2;rw[show J.length+j-J.length=j by exact QU _ _]at e2;exact e2
    rw[<- hJ]at e0;obtain⟨L,j2,ey⟩ : ∃L,X.N[j]?=some L/\(if L∈J then hid L else L)=y:=by
     unfold PJ at e0;rw[aq]at e0;cases hz:X.N[j]? with
     |none=>rw[hz]at e0;cases e0
     |some L=>rw[hz]at e0;exact⟨L,rfl,Option.some.inj e0⟩
    have e3:(relabel O X.env).names.lookup y=some .local\/(relabel O X.env).names.lookup y=some .cell\/(relabel O X.env).names.lookup y=some .free:=e3;have ne:¬L∈J:=λz=>by
     rw[ZY z]at ey;subst ey;rw[hq L (aC j2) z]at e3;rcases e3 with z|z|z<;>cases z
    rw[ZZ ne]at ey;subst ey;have e3':(relabel O X.env).names.lookup L=some .cell\/(relabel O X.env).names.lookup L=some .free:=by
     rcases e3 with z|z
     .exact absurd z (gi L (aC j2) ne)
     .exact z
    obtain⟨kd,c,fq,l9⟩:=hG (E.off _ _ ne) e3';obtain⟨m,_,hl⟩:=t.loc;obtain⟨u,r,lk⟩:=hl j L v j2 mf (.inr kd);refine⟨u,r,.inr ⟨e3',c,fq,?_⟩⟩;rcases lk with⟨k1,_⟩|⟨_,c',q1,o,q2,q3⟩
    .exfalso;have k1':X.env.kindOf L=some .local:=k1;rcases kd with k2|k2<;>rw[k1']at k2<;>cases k2
    .rw[l9]at q1;cases q1;exact⟨o,kg _ _ q2,q3⟩
  .rcases kN e with z|z
   .exact⟨none,fq y c z⟩
   .obtain⟨v,o,q2,q3⟩:=t.cell y c z;exact⟨v,o,kg _ _ q2,q3⟩
  .have dA:p∈X.pn++U:=by simpa[Cx.compE]using hp
   obtain⟨a1,a2,a3,a4,a5⟩:=t.pin p dA;exact⟨kg _ _ a1,a2,aQ (aK a1),t.nostk' a3 a4,a5⟩
  .show(replicate J.length none++I).length=(J++N').length;have hln:N'.length=X.N.length:=by rw[<- hJ];unfold PJ;rw[ak]
   rw[aA,aN,aA,t.len,hln]
 have p3:∀{l:Hp},(∀b∈S,l b=none)->∀b∈S,JK Y [] l b:=λ{l}hn b k=>by
  subst hX;exact⟨hn b k,aQ (nv b k),nst b k,.inl k,cfp b k,λp hp=>(f3 b k).2.2.2.2.2 p (by simpa[Cx.compE]using hp)⟩
 have iA:∀s4:Shared,s4={ s3 with heap:=g,toks:=s3.toks+([] : xh).length } ->
   codeAny (model X.prog X.w) X.A (.compLoop (.ListComp be [⟨tg,iter,aS,0⟩] O N) 0 (.ref it) (.ref B.zs) Y.env) (compPost (model X.prog X.w) X.A X.xe use post (.ref B.zs) s3.zs) s4:=by
  rintro s4 rfl;have YP:Y.prog=X.prog/\Y.w=X.w/\Y.K=X.K/\Y.calm=X.calm/\Y.A=X.A/\Y.env.locals=s3.zs:=by subst hX;exact⟨rfl,rfl,rfl,rfl,rfl,rfl⟩
  obtain⟨y1,y2,y3,y4,y5,y6⟩:=YP;have he':PE Y be te:=by subst hX;exact he _ _ _ _ _
  have g3:PG Y tg gt:=by subst hX;exact hg _ _ _ _ _
  have ht':PTs Y aS tc:=by subst hX;exact ht _ _ _ _ _
  have kU:Y.xe=λ_ _=>False:=by subst hX;rfl
  have yb:∀{l:Hp}{G:L2.St}{pn:Δ}{V:Shared},Inv Y pn G l V->Un (ci X.stack) S H3 l s3.heap V.heap:=λ{l G pn V}Z=>by
   have:=Z.base;subst hX;exact this
  have yos:∀{l:Hp}{G:L2.St}{pn:Δ}{V:Shared},Inv Y pn G l V->V.os=s3.os:=λ{l G pn V}Z=>by
   have:=Z.os;subst hX;exact this
  refine codeAny_loop rfl (λn V=>∃i ys l,∃G:L2.St,G.length=J.length/\Inv Y [] (G++I) l V/\tn i V.heap/\(∀b∈S,l b=none)/\W i n ys l) (λn s5 hI=>?_) m0 ⟨0,[],H3,replicate J.length none,aN,J4 _,T.keep _ _ _ i7 λb _ o e=>kg b o e,λb k=>(f3 b k).1,w0⟩;obtain⟨i,ys,l,G,lS,Z,stc,frc,wc⟩:=hI;show wpAny _ _ ((compTurn (.ListComp be [⟨tg,iter,aS,0⟩] O N) 0 (.ref it) (.ref B.zs) Y.env).onRaise (λz=>do noteFrame z Y.env;theTreesLotGoes z)) _ _ s5;refine wpAny_noted (wpAny_noRaise ?_);rw[compTurn_list];show wpAny (model X.prog X.w) X.A _ _ _ _;rcases fN i n ys l wc with⟨stop,qn⟩|⟨go,step⟩
  .have hd:=T.done Y y1 y2 y3 (y4.trans hc) i [] s5 (G++I) l (λ_ _=>False) Z (p3 frc) stc stop;rw[y5]at hd;refine ZU (wpAny_standAt (ZU (ah hd λr s6 M=>?_)));obtain⟨hr,Z6⟩:=M;subst hr;refine ZT ?_;obtain⟨m,ky,_⟩:=Z6.loc;rw[y6]at ky;have u6:=yb Z6;have hok:HOk X.prog X.w l s6.heap:=by
    have z:=Z6.hok;rw[y1,y2]at z;exact z
   have cn:l s3.zs=none:=by
    have z:=Z6.free;rw[y6]at z;exact z
   have I6:Inv X U I l s6:=t.call' (s':=s6) (ch:=S) (yos Z6) u6 hok Z6.bare λb k=>⟨(f3 b k).2.2.2.1,(f3 b k).2.1,(f3 b k).2.2.2.2.1,(f3 b k).2.2.2.2.2⟩;have fC:JK X U l s3.zs:=t.fpOk (aG _) cn;exact qh _ _ l s6 m _ ky I6 fC qn
  .have hd:=T.item Y y1 y2 y3 (y4.trans hc) i [] s5 (G++I) l (λ_ _=>False) Z (p3 frc) stc go;rw[y5]at hd;refine ZU (wpAny_standAt (ZU (ah hd λr s6 M=>?_)));obtain⟨u,hr,h6⟩:=M;subst hr;refine ZU (ah h6 λ_ s7 M=>?_);obtain⟨xv,H7,Z7,r7,yl,mB,fr7⟩:=M;have Z7':=Z7.pinned (p3 fr7) (T.obj _ _ mB);have cK:=g3 _ s7 _ H7 xv u _ Z7' r7 (step xv H7 yl G lS);rw[y1,y2,y5,kU]at cK;refine ZU (ah cK λ_ s8 M=>?_);obtain⟨σ8,H8,Z8,pre,fm,e8,q8⟩:=M;subst e8;have hte:=ht' _ s8 _ H8 _ Z8 q8;rw[y1,y2,y5,kU]at hte;have br:∀{m':Nat}{kS:Ζ}{H9:Hp}{s9:Shared},Inv Y ([]++Nm S s7.heap) (pre++I) H9 s9->m'<n->W (i+1) m' kS H9->∃m,m<n/\∃i ys l,∃G:L2.St,G.length=J.length/\Inv Y [] (G++I) l s9/\tn i s9.heap/\(∀b∈S,l b=none)/\W i m ys l:=λ{m' kS H9 s9}Z9 iN w9 =>
    ⟨m',iN,i+1,kS,H9,pre,fm,Z9.unpinned,T.keep _ _ _ mB λb k o e=>(Z9.pin (b,o) (aP _ (aP _ (sY k e)))).1,λb k=>by
     obtain⟨o,e,_⟩:=T.obj _ _ mB b k;exact(Z9.pin (b,o) (aP _ (aP _ (sY k e)))).2.1,w9⟩
   refine ZU (ah hte λok s9 M=>?_);obtain⟨H9,Z9,q9⟩:=M;cases ok with
   |false =>
    obtain⟨m',iN,w9⟩:=q9;exact ZT ⟨rfl,br Z9 iN w9⟩
   |true =>
    have hel:=he' _ s9 _ H9 _ Z9 q9;rw[y1,y2,y5,kU]at hel;refine ZU (ZU (ah hel λev s10 M=>?_));obtain⟨yv,H10,Z10,r10,hz,pS,m',iN,w10⟩:=M;have pE:=Qj (X:=Y) _ s10 _ H10 (.ref B.zs) [yv] (.ref B.zs) [ev] (λ_ Hf=>Hf=upd H10 B.zs (.lst (ys++[yv]))) Z10 rfl (.cons r10 .nil) ⟨_,ys,yv,rfl,rfl,pS,hz,rfl⟩;rw[y1,y2,y5,kU]at pE;refine ZU (ah pE λav s11 M=>?_);obtain⟨_,H11,Z11,_,e11⟩:=M;subst e11;exact ZT (ZT ⟨rfl,br Z11 iN w10⟩)
 have oQ:Y.env=compEnvC O (ext s3.zs++xY X.env.cells O.names []) s3.zs X.env:=by subst hX;rfl
 rw[oQ]at iA;exact codeAny_compStart_list (iA _ rfl) (T.self _ 0 _ _ _ (T.keep _ _ _ i7 λb _ o e=>kg b o e) (iA _ rfl))
def Wy{J j:Φ}(E:Vh X O J ext fn)(z:X.calm)(B:PJ J X.N=j)(K:O.kind=.function)(G:∀y∈O.names,y.2=.local->O.names.lookup y.1=some .local)
 (L:∀y∈O.names,y.2=.free->X.env.kindOf y.1=some .cell\/X.env.kindOf y.1=some .free)(F:∀y∈X.N,y∉J->(relabel O X.env).names.lookup y≠some .local)(t:∀y∈X.N,y∈J->(relabel O X.env).names.lookup (hid y)=none)(v:PI X tg iter wi)
 (w:∀C c d i f,PG (X.compE ext fn j O J C c d i f) tg gt)(p:∀C c d i f,PTs (X.compE ext fn j O J C c d i f) aS tc)(x:∀C c d i f,PE (X.compE ext fn j O J C c d i f) be te)(r:zg X iter) :
  PE X (.ListComp be [⟨tg,iter,aS,0⟩] O N) (uI wi J.length gt tc te):=by
 intro U s I H Q a h;rw[eval_ListComp];exact Pb E z B K G L F t v w p x r a h λC D P l m R u M g q=>⟨m,u,λk n=>⟨.ref D,P,M.turned (it:=C) (h':=k) (t':=l.toks) (λb o A e=>(n.2 b A).trans e) g.1 g.2.1 g.2.2.2.1 g.2.2.2.2.1 g.2.2.2.2.2,rfl,q⟩⟩
section
variable{κ:Type}[DecidableEq κ]
def Kp(kvs:List (κ×V))(k:κ):xD:=(kvs.find? λa=>decide (a.1=k)).map (·.2)
def putK(kvs:List (κ×V))(k:κ)(v:V):List (κ×V) :=
 if(kvs.any λa=>decide (a.1=k))=true then kvs.map (λa=>if a.1=k then(a.1,v)else a)else kvs++[(k,v)]
def Vp{p:κ×V}{r:List (κ×V)}{k:κ}(e:p.1=k):Kp (p::r) k=some p.2:=by simp[Kp,List.find?_cons,e]
def Ku{p:κ×V}{r:List (κ×V)}{k:κ}(e:¬p.1=k):Kp (p::r) k=Kp r k:=by simp[Kp,List.find?_cons,e]
def W4(kvs:List (κ×V))(k:κ)(v:V):(putK kvs k v).length<=kvs.length+1:=by
 unfold putK;split
 .rw[ak];exact Xs _
 .rw[aA,length_cons,List.length_nil];exact aG _
def Ci.isSome_eq{u:Ω}(r:Ci o u):o.isSome=u.isSome:=by
 cases o with
 |none=>cases u with
  |none=>rfl
  |some _=>exact(show False from r).elim
 |some _=>cases u with
  |none=>exact(show False from r).elim
  |some _=>rfl
def Ci.getD{o:xD}{u:Ω}{d:V}{a:Value}(r:Ci o u)(rd:z4 d a):z4 (o.getD d) (u.getD a):=by
 cases o with
 |none=>cases u with
  |none=>exact rd
  |some _=>exact(show False from r).elim
 |some _=>cases u with
  |none=>exact(show False from r).elim
  |some _=>exact r
def KV.val{kvs:List (κ×V)}{d:List (κ×Value)}(r:KV kvs d)(k:κ):Ci (Kp kvs k) (valueAt d k):=by
 unfold KV at r
 induction r with
 |nil=>exact True.intro
 |@cons p q ps a h t g =>
  obtain⟨f,i⟩:=h;by_cases e:p.1=k
  .have c:q.1=k:=f.symm.trans e;have b:valueAt (q::a) k=some q.2:=by simp[valueAt,List.find?_cons,c]
   rwa[Vp e,b]
  .have c:¬q.1=k:=λz=>e (f.trans z);have b:valueAt (q::a) k=valueAt a k:=by simp[valueAt,List.find?_cons,c]
   rwa[Ku e,b]
def KV.any{kvs:List (κ×V)}{b:List (κ×Value)}(r:KV kvs b)(k:κ):(kvs.any λa=>decide (a.1=k))=b.any λa=>decide (a.1=k):=by
 unfold KV at r
 induction r with
 |nil=>rfl
 |cons h t c=>rw[any_cons,any_cons,c,h.1]
def KV.repl{kvs:List (κ×V)}{c:List (κ×Value)}(r:KV kvs c)(k:κ)(d:z4 y u) :
  KV (kvs.map λa=>if a.1=k then(a.1,y)else a) (c.map λa=>if a.1=k then(a.1,u)else a):=by
 unfold KV at r ⊢
 induction r with
 |nil=>exact .nil
 |@cons p q ps i h t f =>
  rw[map_cons,map_cons];refine .cons ?_ f;obtain⟨b,g⟩:=h;by_cases e:p.1=k
  .rw[ZY e,ZY (b.symm.trans e)];exact⟨b,d⟩
  .rw[ZZ e,ZZ (λz=>e (b.trans z))];exact⟨b,g⟩
def KV.put{kvs:List (κ×V)}{a:List (κ×Value)}(r:KV kvs a)(k:κ)(b:z4 y u):KV (putK kvs k y) (stored a k u):=by
 unfold putK stored;rw[r.any k];by_cases e:(a.any λc=>decide (c.1=k))=true
 .rw[ZY e,ZY e];exact r.repl k b
 .rw[ZZ e,ZZ e];exact Paired.snoc r ⟨rfl,b⟩
def KV.length{kvs:List (κ×V)}{a:List (κ×Value)}(r:KV kvs a):kvs.length=a.length:=Paired.length r
end
def Vn{k:bX}(r:z4 (kV k) u):(j_ P w).is k u:=by
 cases k with
 |inl i=>obtain⟨t,e⟩:=(show ∃t,u=Value.int i t from r);subst e;exact V9 P w i t
 |inr x=>obtain⟨t,e⟩:=(show ∃t,u=Value.str x t from r);subst e;exact V6 P w x t
def L9{u:HO}(b:HOk P w H h)(e:Rd H a u):gM P w H h a u:=e.ok b
def Mu(c:HOk P w H h)(e:Rd H a (.dK kvs)):kvs.length<=sizeLine/\(a==sysModules)=false/\∃b,KV kvs b/\h.DictOf (j_ P w) a b :=
 show gM P w H h a (.dK kvs)from L9 c e
def Mn(c:HOk P w H h)(e:H a=some (.dK kvs)):kvs.length<=sizeLine/\(a==sysModules)=false/\∃b,KV kvs b/\h.DictOf (j_ P w) a b:=Mu c (.inl e)
def HW(H:Hp)(a:Addr)(y:V)(r:xD):Prop :=
 (∃kvs k,Rd H a (.dK kvs)/\y=kV k/\r=Kp kvs k)\/False
def tJ(H:Hp)(a:Addr)(y v:V)(Y:Hp):Prop :=
 (∃kvs k,H a=some (.dK kvs)/\y=kV k/\kvs.length<sizeLine/\Y=upd H a (.dK (putK kvs k v)))\/False
def HW.k{H:Hp}{a:Addr}{kvs:xF}{k:bX}(e:H a=some (.dK kvs)):HW H a (kV k) (Kp kvs k):=.inl ⟨kvs,k,.inl e,rfl,rfl⟩
variable{I:St}{Q:Ε}{h':Heap}{r:Value}{aI i:Expr}
def Inv.big(a:Inv X U I H s):sysModules<s.zs:=by
 have h:mainGlobals<s.zs:=(a.mod.glob.keeps a.bk).lt;exact UU wf h
def abB(t:A.units+1<cLine)(b:Inv X U I H s)(g:HW H a y (some v))(j:z4 y u)(h:∀c f,Inv X U I H f->z4 v c->Q c f) :
  wpAny (model X.prog X.w) A (getItem (.ref a) u) Q E s:=by
 rcases g with⟨kvs,k,e,p,l⟩|n
 .subst p;obtain⟨z,hd,i,d,r⟩:=Mu b.hok e;obtain⟨c,m,q⟩:=Ci.some_of (v:=v) (o:=valueAt i k) (by rw[l];exact d.val k);exact wpAny_getItem_of (Vn j) r.mapOf m (h c _ (b.tok _) q)
 .exact n.elim
def IC(p:A.units+1<cLine)(b:Inv X U I H s)(g:HW H a y o)(f:z4 y u)(h:∀d,Inv X U I H d->Q (.bool o.isSome) d) :
  wpAny (model X.prog X.w) A (compareOp .In u (.ref a)) Q E s:=by
 rcases g with⟨kvs,k,e,j,l⟩|i
 .subst j;obtain⟨z,hd,n,c,m⟩:=Mu b.hok e;refine wpAny_in_of (Vn f) hd m.mapOf ?_;rw[<- (c.val k).isSome_eq,<- l];exact h _ (b.tok _)
 .exact i.elim
def _t(p:A.units+1<cLine)(b:Inv X U I H s)(g:HW H a y o)(f:z4 y u)(h:∀d,Inv X U I H d->Q (.bool (!o.isSome)) d) :
  wpAny (model X.prog X.w) A (compareOp .NotIn u (.ref a)) Q E s:=by
 rcases g with⟨kvs,k,e,j,l⟩|i
 .subst j;obtain⟨z,hd,n,c,m⟩:=Mu b.hok e;refine wpAny_notIn_of (Vn f) hd m.mapOf ?_;rw[<- (c.val k).isSome_eq,<- l];exact h _ (b.tok _)
 .exact i.elim
def To{h:Nat}{d:HO}(c:Inv X U I H s)(i:kz (H a))(j:Heap.SameBut a s.heap h')(k:∃q,h'.get? a=some q)(f:gM X.prog X.w (upd H a d) h' a d) :
  Inv X U I (upd H a d) { s with heap:=h',toks:=h } :=
 c.write (x:=a) (e:=a) i (.inl rfl) (λb q l z=>(j.2 b l).trans z) k f
def Sn{b:List (bX×Value)}(z:kvs.length<=sizeLine)(hd:(a==sysModules)=false)(c:KV kvs b)(d:h'.DictOf (j_ P w) a b) :
  gM P w Y h' a (.dK kvs):=⟨z,hd,b,c,d⟩
def abb{Q:Unit->Shared->Prop}(G:A.units+1<cLine)(b:Inv X U I H s)(g:tJ H a y v Y)(j:z4 y u)(m:z4 v r)(h:∀f,Inv X U I Y f->Q () f) :
  wpAny (model X.prog X.w) A (setItem (.ref a) u r) Q E s:=by
 rcases g with⟨kvs,k,e,C,l,D⟩|B
 .subst C D;obtain⟨z,hd,i,c,F⟩:=Mn b.hok e;have n:i.length<=sizeLine:=by rw[<- c.length];exact z
  have t:(putK kvs k v).length<=sizeLine:=by have:=W4 kvs k v;lia
  refine wpAny_setItem_pairs (hsz:=n) (Vn j) F λh' d o=>h _ ?_;have x:∃q,h'.get? a=some q:=by obtain⟨q,_,_,p,_⟩:=d;exact⟨q,p⟩
  exact To b (by rw[e];exact True.intro) o x (Sn t hd (c.put k m) d)
 .exact B.elim
def ow(i:Expr):Prop:=∀a b,subscripted i false a b=operate [a,b] (getItem a b)
def TC{env:Env}{g:Expr}{T id:String}
 (m:typeLookup (.type T) "__getitem__"=pure (some (.builtin id)))(l:ow g)
 (h:wpAny (model prog w) A (eval aI env) (λo d=>wpAny (model prog w) A (eval g env) (λi a=>a.TypeIs o T/\wpAny (model prog w) A (getItem o i) Q E a) E d) E s) :
  wpAny (model prog w) A (eval (.Subscript aI g N) env) Q E s:=by
 refine Subscript_ (wpAny_mono h (λo d f=>wpAny_mono f (λi a b=>?_) λ_ _ x=>x) λ_ _ x=>x);obtain⟨k,b⟩:=b;unfold subscriptTail;refine ZU ?_;rw[getitemInPython_of_ne k.not_modules];refine ZU (wpAny_specialOf k m ?_);have j:wpAny (model prog w) A (subscripted g false o i) (λr c=>wpAny (model prog w) A (letTemporaryGo aI o r >>= λ_=>pure r) Q E c) E a:=by
  rw[l o i];exact wpAny_operating (wpAny_mono b (λr c e=>ZU (wpAny_letTemporaryGo (ZT e))) λ_ _ x=>x)
 first
  |exact ZT (ZU j)
  |exact ZU (ZT (ZU j))
  |exact ZU j
def Vz{X:Cx}(b:Inv X U I H s)(g:HW H a y o):s.TypeIs (.ref a) "dict":=by
 rcases g with⟨kvs,k,e,_,_⟩|c
 .obtain⟨_,_,f,_,d⟩:=Mu b.hok e;exact d.typeIs
 .exact c.elim
def MQ(d c:TE):TE:=λI H Q=>d I H λx Z=>c I Z λy b=>∃a v,x=.ref a/\HW b a y (some v)/\Q v b
def Kj(c d:TE):TE:=λI H Q=>c I H λy Z=>d I Z λx b=>∃a o,x=.ref a/\HW b a y o/\Q (.bl o.isSome) b
def _R(c d:TE):TE:=λI H Q=>c I H λy Z=>d I Z λx b=>∃a o,x=.ref a/\HW b a y o/\Q (.bl (!o.isSome)) b
def MG(e c d:TE):TS:=λD I H=>d I H λv Z=>e I Z λx g=>c I g λy f=>∃a b,x=.ref a/\tJ f a y v b/\D.nx I b
variable{o:Expr}{td ty tv:TE}{bo:Pos}
def WI(k:X.A.units+1<cLine)(m:PE X o td)(n:PE X i ty)(l:ow i):PE X (.Subscript o i N) (MQ td ty):=by
 intro U s I H Q b h;refine TC PySem.F.slot_dict_getitem.lookup l (ah (m U s I H _ b h) λu d ⟨x,Z,w,f,j⟩=>ah (n U d I Z _ w j) λE D p=>?_);obtain⟨y,z,c,e,a,v,q,g,q2⟩:=p;subst q;obtain rfl:u=Value.ref a:=f;exact⟨Vz c g,abB k c g e λB C t r=>⟨v,z,t,r,q2⟩⟩
def PN(k:X.A.units+1<cLine)(m:PE X i ty)(l:PE X o td):PC X .In i o (Kj ty td):=by
 intro U s I H Q b h;refine ah (m U s I H _ b h) λB c ⟨y,Z,t,d,f⟩=>ah (l U c I Z _ t f) λu z n=>?_;obtain⟨x,v,r,e,a,j,p,g,q2⟩:=n;subst p;obtain rfl:u=Value.ref a:=e;exact IC k r g d λw q=>⟨.bl j.isSome,v,q,rfl,q2⟩
def aaD(k:X.A.units+1<cLine)(m:PE X i ty)(l:PE X o td):PC X .NotIn i o (_R ty td):=by
 intro U s I H Q b h;refine ah (m U s I H _ b h) λB c ⟨y,Z,t,d,f⟩=>ah (l U c I Z _ t f) λu z n=>?_;obtain⟨x,v,r,e,a,j,p,g,q2⟩:=n;subst p;obtain rfl:u=Value.ref a:=e;exact _t k r g d λw q=>⟨.bl (!j.isSome),v,q,rfl,q2⟩
def Tl(m:X.A.units+1<cLine)(p:PE X o td)(q:PE X i ty)(l:PE X aI tv)(n:swapsWith aI (some (.Subscript o i bo)) N.line X.env=pure false) :
  PS X (.Assign [.Subscript o i bo] aI N) (MG td ty tv):=by
 intro U s I H D b h;refine wpAny_Assign_Subscript (ah (l U s I H _ b h) λr d ⟨v,Z,E,j,k⟩=>ah (p U d I Z _ E k) λu c ⟨x,G,C,f,q2⟩=>ah (q U c I G _ C q2) λL K t=>?_) n;obtain⟨y,M,B,e,a,F,w,g,q3⟩:=t;subst w;obtain rfl:u=Value.ref a:=f;exact abb m B g e j λJ z=>⟨I,F,z,q3⟩
def ab8(h:Heap)(a:sysModules<h.objs.size):gM P w H (h.push { cls:=.type "dict",data:=.dict #[] }) h.objs.size (.dK []) :=
 ⟨aZ _,beq_eq_false_iff_ne.mpr (Ne.symm (aQ a)),[],.nil,Heap.DictOf.new h⟩
def O3:TE:=λ_ H Q=>∀p,H p=none->Q (.ref p) (upd H p (.dK []))
def acf:PE X (.Dict [] [] N) O3:=λU s I H Q b h =>
 wpAny_Dict_empty ⟨.ref s.zs,_,b.laid (a:=s.zs) (o:=.dK []) (t':=s.toks) (λ_ _ q=>aH _ q) (aG _) (ab8 s.heap b.big),rfl,h _ (b.hok.fresh (aG _))⟩
abbrev VV:List (V×V)->List (Value×Value)->Prop:=Paired λp q=>z4 p.1 q.1/\z4 p.2 q.2
structure M2(X:Cx)(o:Expr)(m:Str)(ai:Pos)(e f:Expr)(af:Pos):Prop where
 base:zo X o m
 few:((backTo af (starEach [e,f] X.env)).all (λx=>!x.1)&&(backToKw af (keywordEach [] X.env)).all (λx=>x.1.isSome)
  && decide (([e,f] : xw).length+([] : wq).length+(if([] : wq).isEmpty then 0 else 1)<30))=true
 line:ze ai af
 trees:backTo af (starEach [e,f] X.env)=[(false,eval e X.env),(false,eval f X.env)]
def FK(H:Hp)(a:Addr):Prop:=(∃kvs,Rd H a (.dK kvs))\/False
def O0{X:Cx}(c:Inv X U I H s)(d:FK H a) :
  s.TypeIs (.ref a) "dict"/\(∀b,Value.ref a=.ref b->∃f,s.heap.get? b=some f/\f.dict=none)/\(a==sysModules)=false:=by
 rcases d with⟨kvs,e⟩|h
 .obtain⟨_,hd,k,_,g⟩:=Mu c.hok e;refine⟨g.typeIs,λb q=>?_,hd⟩;cases q;obtain⟨f,_,_,j,i,_⟩:=g;exact⟨f,j,i.2.1⟩
 .exact h.elim
variable{o:xD}{d:V}{f:Expr}
def P9(t:A.units+1<cLine)(b:Inv X U I H s)(g:HW H a y o)(m:z4 y u)(rd:z4 d r)(h:∀f i,Inv X U I H i->z4 (o.getD d) f->Q f i) :
  wpAny (model X.prog X.w) A (call (.builtin "dict.get") [.ref a,u,r]) Q E s:=by
 rcases g with⟨kvs,k,e,p,l⟩|n
 .subst p;obtain⟨z,hd,q,c,j⟩:=Mu b.hok e;refine call_meetsIn PySem.F.slot_dict_get j.typeIs PySem.F.entry_dict_get (PySem.F.args_dict_get_3 _ _ _) (meets_dict_get_default (j_ X.prog X.w) a (Vn m) hd r) ⟨_,j.mapOf,h _ _ (b.tok _) ?_⟩;rw[l];exact(c.val k).getD rd
 .exact n.elim
def NW(td ty c:TE):TE:=λI H Q=>td I H λx Z=>∃a,x=.ref a/\FK Z a/\ty I Z λy d=>c I d λz b=>∃o,HW b a y o/\Q (o.getD z) b
variable{o:Expr}{tx:TE}{pl:Sem Bool}{I:L2.St}
def adM(t:X.A.units+1<cLine)(v:PE X o td)(B:PE X e ty)(w:PE X f tx)(m:M2 X o "get" ai e f af):PE X (.Call (.Attribute o "get" ai) [e,f] [] af) (NW td ty tx):=by
 intro U s I H Q b h;refine wpAny_Call_method m.base m.few m.line PySem.F.plainAttrs_dict PySem.F.slot_dict_get PySem.F.type_dict_get (ah (v U s I H _ b h) λu l C=>?_);obtain⟨x,Z,c,q,a,D,d,r⟩:=C;subst D;obtain rfl:u=Value.ref a:=q;obtain⟨j,i,_⟩:=O0 c d;refine⟨j,i,?_⟩;rw[m.trees];refine Calls.callWith_builtin rfl (Calls.evalArgs_plain (Calls.spliced_cons (ah (B U l I Z _ c r) λS k ⟨y,M,K,p,q2⟩ =>
  Calls.spliced_cons (ah (w U k I M _ K q2) λT P ⟨z,L,J,n,R,g,q3⟩=>Calls.spliced_nil ?_))))
 exact P9 t J g p n λN O G E=>⟨_,L,G,E,q3⟩
def mn(a:Addr)(o:Obj)(kvs:xF):It:=⟨λi H=>H a=some (.frz o (.dK kvs))/\i<kvs.length,λi H v Y=>Y=H/\∃k y,kvs[i]?=some (k,y)/\v=kV k,λi H=>H a=some (.frz o (.dK kvs))/\i=kvs.length⟩
def M3{k:bX}(h:(j_ P w).is k u):z4 (kV k) u:=by
 have h:Ft k u:=h;cases k with
 |inl i =>
  cases u<;>simp[Ft,Value.isInt]at h
  .subst h;exact⟨_,rfl⟩
 |inr x =>
  cases u<;>simp[Ft,Value.isStrOf]at h
  .subst h;exact⟨_,rfl⟩
def KV.at{a:Type}{kvs:List (a×V)}{b:List (a×Value)}(r:KV kvs b):∀{i:Nat}{k:a}{y:V},kvs[i]?=some (k,y)->∃u,b[i]?=some (k,u)/\z4 y u:=by
 unfold KV at r
 induction r with
 |nil=>intro i k y h;cases h
 |@cons p q ps g h t c =>
  intro i k y e;cases i with
  |zero =>
   rw[List.getElem?_cons_zero]at e;cases e;obtain⟨j,q2⟩:=q;obtain⟨f,d⟩:=h;cases f;exact⟨q2,rfl,d⟩
  |succ i =>
   rw[List.getElem?_cons_succ]at e ⊢;exact c e
def abo(g a:Addr)(o:Obj)(kvs:xF)(x:List (bX×Value))(O:Nat)(n:KV kvs x)(N:∀h:Heap,h.get? a=some o->h.DictAt (j_ P w) a x O) :
  Turn P w K tg (mn a o kvs) [g] g (λi h=>h.IsKeyIter g a i x.length O) where
 mem:=by simp
 obj:=λi h st b m=>by
  have e:b=g:=by simpa using m
  subst e;obtain⟨o,j,_,hd⟩:=st;exact⟨o,j,λv z=>by rw[hd]at z;cases z⟩
 keep:=λi h h' st k=>let⟨o,j,r⟩:=st;⟨o,k g wr o j,r⟩
 item:=by
  intro X A hw B hc i U s I H E f t st l;subst A hw B;obtain⟨l,Z⟩:=l;obtain⟨j,_⟩:=(show gM X.prog X.w H s.heap a (.frz o (.dK kvs))from f.hok a _ l);obtain⟨J,G,W,F,D,C⟩:=t g wr;obtain⟨⟨k,y⟩,M⟩ : ∃p,kvs[i]?=some p:=⟨kvs[i],by simp[Z]⟩;obtain⟨u,T,ru⟩:=n.at M;refine wpAny_pyNext_dict_item st (N _ j) T λc8 h' S Q R=>?_;have I1:Inv X U I H { s with heap:=h' }:=f.turned (t':=s.toks) (λb L m e=>(R.2 b m).trans e) J G F D C;obtain⟨oi,e,c,d⟩:=id Q;exact⟨c8,rfl,U0 (s:={ s with heap:=h' }) e c d wf ⟨kV k,H,I1,M3 S,⟨rfl,k,y,M,rfl⟩,Q,λb m=>(t b m).1⟩⟩
 done:=by
  intro X A hw B hc i U s I H E f t st l;subst A hw B;obtain⟨l,rfl⟩:=l;obtain⟨j,_⟩:=(show gM X.prog X.w H s.heap a (.frz o (.dK kvs))from f.hok a _ l);obtain⟨J,G,W,F,D,C⟩:=t g wr;have V:=n.length;exact wpAny_pyNext_dict_end (f.ok.hd hc) st (N _ j) (by simp;exact WG (Eq.symm V)) λh' Y=>⟨rfl,f.turned (t':=s.toks) (λb L m e=>Y b L m e) J G F D C⟩
 self:=λ_ _ _ _ _ st h=>wpAny_pyIter_keyiter st h
def KM(te:TE):TI:=λI H R=>te I H λx Z=>∃a kvs,x=.ref a/\Z a=some (.dK kvs)/\∀o,R (mn a o kvs) (upd Z a (.frz o (.dK kvs)))
def YA{l:Expr}{n:TE}(F:PE X l n):PI X tg l (KM n):=by
 intro U s I H R c h;refine ah (F U s I H _ c h) λv d G=>?_;obtain⟨x,Z,C,D,a,kvs,i,r,q⟩:=G;subst i;cases D;have E:=(show gM X.prog X.w Z d.heap a (.dK kvs)from C.hok a _ r);obtain⟨z,hd,j,f,o,es,k,e,i,B,A,g,y⟩:=E;have t:∀h:Heap,h.get? a=some o->h.DictAt (j_ X.prog X.w) a j k:=λh e=>⟨o,es,e,i,B,A,g,y⟩;have m:Inv X U I (upd Z a (.frz o (.dK kvs))) d:=by
  have:=C.write (x:=a) (e:=a) (o:=.frz o (.dK kvs)) (h':=d.heap) (t':=d.toks) (by rw[r];exact True.intro) (.inl rfl) (λb u p z=>z) ⟨o,e⟩ ⟨e,z,hd,j,f,o,es,k,e,i,B,A,g,y⟩;exact this
 refine wpAny_pyIter_dict hd (t _ e) ?_;refine⟨d.zs,[d.zs],_,mn a o kvs,_,rfl,m.kept (t':=d.toks) λb J z=>aH _ z,abo _ a o kvs j k f t,⟨_,aW _ rfl,rfl,rfl⟩,λb p=>?_,q o⟩;have e:b=d.zs:=by simpa using p
 subst e;exact m.fpOk (aG _) (m.hok.fresh (aG _))
def gl(g:TG):TG:=λv I H Q=>∃R:L2.St->Hp->Prop,g v I H R/\∀a Y,R a Y->Q a Y
def gj(t:TT):TT:=λI H Q=>∃R:Bool->Hp->Prop,t I H R/\∀b Y,R b Y->Q b Y
def PG.mono{g:TG}(h:PG X e g):PG X e (gl g):=λU s I H v u Q a r c=>by obtain⟨R,f,d⟩:=c;exact ah (h U s I H v u R a r f) λ_ j c=>by obtain⟨b,Y,i,q⟩:=c;exact⟨b,Y,i,d b Y q⟩
def PTs.mono{t:TT}(h:PTs X aS t):PTs X aS (gj t):=λU s I H Q a c=>by obtain⟨R,e,d⟩:=c;exact ah (h U s I H R a e) λb g c=>by obtain⟨Y,f,q⟩:=c;exact⟨Y,f,d b Y q⟩
structure IV(K:Frag)(B:Addr)(m:Str)(f:Addr):Prop where
 ga:specialIn K (.ref B) "__getattribute__"=some (some (.builtin "type.__getattribute__"))
 rd:readsIn K B (.type "type")
 at_:findCls K (.ref B) (.type "type") m=some (.val (.ref f))
 hd:handedIn (.ref f)
 kp:keepIn K (.ref f)
section
variable{X:Cx}{k:Nat}{f B:Addr}{fd:FuncData}{ps:Φ}{sp:Sp}{dm:Ζ}{ds:Θ}{x m:Str}{p N ai:Pos}{e:Expr}{es:xw}{t:TA}{Ex:Value->Ξ->L2.St->Hp->Prop}
def IV.get{U:Δ}{I:L2.St}{H:Hp}{s:Shared}{pl:Sem Bool}{A:Around}{E:Ε}{Q:Value×Θ->Shared->Prop}(c:IV X.K B m f)(a:Inv X U I H s)(h:∀t,Q (.ref f,[]) { s with toks:=t }) :
  wpAny (model X.prog X.w) A (getMethod (.ref B) m pl) Q E s :=
 PySem.W.method_cls a.kIn c.ga (PySem.W.cls_value a.kIn c.rd c.at_ c.hd (h _))
def _g(c:IV X.K B m f)(F:bW X.prog X.w X.K X.mg X.base ab k f fd ps sp)(n:dY k X.A)(q:Gl X x)(o:X.mg x=some (.ref B))(u:Binds X.K fd ps [])(v:PA X (e::es) t)(y:qV x:=by decide)
 (z:qS X e es:=by rfl)(C:qE X N es:=by rfl)
 (l:eval (.Call (.Attribute (.Name x p) m ai) (e::es) [] N) X.env=(do
   let g <- eval (.Name x p) X.env
   standAt ai.atName
   let(f,first) <- holding [g] (getMethod g m pl)
   callWith N f first (backTo N (starEach (e::es) X.env)) (backToKw N (keywordEach [] X.env))):=by rfl) :
  PE X (.Call (.Attribute (.Name x p) m ai) (e::es) [] N) (Xq sp t):=by
 intro U s I H Q a h;refine methodCall_KW (pl:=pl) (Ej a q o (c.get a λj=>?_) y) l;refine callWith_K (first:=[]) (h₀:=X.base) a.ok.mod.kin c.kp (ah (v N U _ I H _ (a.tok j) h) λd D ⟨b,E,i,r,q2⟩=>⟨i.kIn,?_⟩) z C;exact LC (us:=d) (vs:=b) F n u .nil Py i r (by rw[append_nil];exact q2)
end
def z0.tup{K:Frag}{H Y:Hp}{a:Addr}{J:Ζ}(e:z0 H Y)(h:SqT K H a J):SqT K Y a J:=by
 rcases h with(h|⟨o,h⟩)|h
 .exact .inl (.inl (e _ _ h))
 .exact .inl (.inr ⟨o,e _ _ h⟩)
 .exact .inr h
mutual
inductive iU(K:Frag)(H:Hp):V->PyData->Prop
 |non:iU K H .non .none
 |bl (b:Bool):iU K H (.bl b) (.bool b)
 |int (i:Int):iU K H (.int i) (.int i)
 |str (x:Str):iU K H (.str x) (.str x)
 |lst {a:Addr}{J:Ζ}{ds:xa} : H a=some (.lst J)->fM K H J ds->iU K H (.ref a) (.list ds)
 |tup {a:Addr}{J:Ζ}{ds:xa} : SqT K H a J->fM K H J ds->iU K H (.ref a) (.tuple ds)
inductive fM(K:Frag)(H:Hp):Ζ->xa->Prop
 |nil:fM K H [] []
 |cons {x:V}{J:Ζ}{d:PyData}{ds:xa} : iU K H x d->fM K H J ds->fM K H (x::J) (d::ds)
end
mutual
theorem iU.same{K:Frag}{H Y:Hp}(S:z0 H Y):∀{x:V}{d:PyData},iU K H x d->iU K Y x d
 |_,_,.non=>.non
 |_,_,.bl b=>.bl b
 |_,_,.int i=>.int i
 |_,_,.str x=>.str x
 |_,_,.lst e h=>.lst (S _ _ e) (fM.same S h)
 |_,_,.tup e h=>.tup (S.tup e) (fM.same S h)
theorem fM.same{K:Frag}{H Y:Hp}(S:z0 H Y):∀{J:Ζ}{a:xa},fM K H J a->fM K Y J a
 |_,_,.nil=>.nil
 |_,_,.cons h t=>.cons (iU.same S h) (fM.same S t)
end
mutual
theorem Inv.readsK(a:Inv X U I H s):∀{x:V}{d:PyData}{v:Value},iU X.K H x d->z4 x v->∃j,Reads s.heap v d j
 |_,_,_,.non,r=>by cases r;exact⟨_,.none⟩
 |_,_,_,.bl b,r=>by cases r;exact⟨_,.bool b⟩
 |_,_,_,.int i,r=>by obtain⟨t,rfl⟩:=r;exact⟨_,.int i t⟩
 |_,_,_,.str x,r=>by obtain⟨t,rfl⟩:=r;exact⟨_,.str x t⟩
 |_,_,_,.lst e h,r=>by
  cases r;obtain⟨f,c,⟨o,g,hc,n,hd⟩⟩:=a.lstIs e;obtain⟨j,q⟩:=Inv.readsAllK a h c;exact⟨_,.list g hc hd q⟩
 |_,_,_,.tup e h,r=>by
  cases r;obtain⟨f,c,⟨o,g,hc,n,hd⟩,_⟩:=a.tuple e;obtain⟨j,q⟩:=Inv.readsAllK a h c;exact⟨_,.tuple g hc hd q⟩
theorem Inv.readsAllK(c:Inv X U I H s):∀{J:Ζ}{e:xa}{d:Θ},fM X.K H J e->z5 J d->∃j,ReadsAll s.heap d e j
 |_,_,_,.nil,r=>by cases r;exact⟨_,.nil⟩
 |_,_,_,.cons h t,r=>by
  cases r with
  |cons g f =>
   obtain⟨a,i⟩:=Inv.readsK c h g;obtain⟨b,q2⟩:=Inv.readsAllK c t f;exact⟨_,.cons i q2⟩
end
def n7(K:Frag)(a:Bool):R2:=λx y H Q=>∃d e,iU K H x d/\iU K H y e/\SeqAt.shaped d/\SeqAt.shaped e/\Q (.bl (if a then !PyData.eqv d e else PyData.eqv d e)) H
def Pd(k:X.A.units+64<cLine):OpR X (compareOp .Eq) (n7 X.K false):=by
 intro U s I H x y v u Q a g f h;obtain⟨d,e,hd,l,c,b,q⟩:=h;obtain⟨n,j⟩:=a.readsK hd g;obtain⟨m,i⟩:=a.readsK l f;exact SeqAt.compareEq_shaped j i c b k ⟨.bl _,H,a,rfl,q⟩
def OU(k:X.A.units+64<cLine):OpR X (compareOp .NotEq) (n7 X.K true):=by
 intro U s I H x y v u Q a g f h;obtain⟨d,e,hd,l,c,b,q⟩:=h;obtain⟨n,j⟩:=a.readsK hd g;obtain⟨m,i⟩:=a.readsK l f;exact SeqAt.compareNe_shaped j i c b k ⟨.bl _,H,a,rfl,q⟩
def VA(K:Frag):Ζ->Hp->VK->Prop:=λJ H Q=>∃p T a,J=[.ref p,.ty T]/\T∈["bool","int","str","list","tuple","dict"]/\SqT K H p a/\Q (.bl (QM "tuple" T)) H
def WY:kW X (.builtin "isinstance") (VA X.K):=by
 intro U s I H J l Q b r h;obtain⟨p,T,k,rfl,j,g,q⟩:=h;obtain⟨u,v,rfl,e,d⟩:=r.two;cases e;cases d;obtain⟨f,c,⟨o,i,hc,n,hd⟩,_⟩:=b.tuple g;refine kia_one (kitx_tuple (a:=p)) b.kIn ⟨o,i,hc⟩ (Y0 (K:=X.K) (t:="tuple") wf j) (λz=>nomatch z) λm=>⟨.bl _,H,b.tok _,rfl,q⟩
def OkI(P:Program)(w:World)(K:Frag)(mg:Str->Ω)(base:Heap)(a:eR)(k:Nat)(f:Addr)(ps:Φ)(sp:Sp):Prop:=∃fd,bW P w K mg base a k f fd ps sp/\Binds K fd ps []
def Ce(K:Frag)(x qual:Str)(st:Stmt)(ps:Φ)(f:Addr):Prop:=∃fd,Fun K x qual st f fd/\∀a:Θ,a.length=ps.length->bindArgs fd ⟨a,[]⟩=pure (ps.zip a)
variable{f c c0 Pt fR:Addr}{k i kL:Nat}{o:Obj}{p:Pos}{x0 y:Str}{vs:Ζ}{cl:xb}{params:Arguments}{body:Expr}{as L:Ψ}{js:xE}{spL:Ζ->Sp}{spR:Ζ->Addr->Sp}
def Ce.ok{c:eR}(h:Ce K x qual st ps f)(d:∀fd,Fun K x qual st f fd->bW P w K mg base c k f fd ps sp):OkI P w K mg base c k f ps sp :=
 by obtain⟨fd,a,b⟩:=h;exact⟨fd,d fd a,.all b⟩
def V'{h e:Ξ}{kV d a b:Value}
 (l:K.lookup f=some ⟨oc,h,.func (PySem.W.fnOf x qual (h_ st) (dZ st) (bG st) .none kV d pm e a b),dQ⟩)(c:codeIn K a qual)(k:keepIn K (.ref f))
 (i:∀(kV d pm:Value)(e:Ξ)(a b:Value)(g:Θ),g.length=ps.length->bindArgs (PySem.W.fnOf x qual (h_ st) (dZ st) (bG st) .none kV d pm e a b) ⟨g,[]⟩=pure (ps.zip g)):Ce K x qual st ps f :=
 ⟨_,Xe l c k,i kV d pm e a b⟩
section
variable{X:Cx}{k:Nat}{f C B:Addr}{ps:Φ}{sp:Sp}{x m:Str}{p N ai:Pos}{e o:Expr}{es:xw}{ta:TE}{t:TA}{Ex:Value->Ξ->L2.St->Hp->Prop}
def EC(C:Addr)(m:Str)(sp:Sp)(ta:TE)(t:TA):TE:=λI H Q=>ta I H λx Z=>∃a c b,x=.ref a/\Z a=some (.ins C c b)/\b.lookup m=none/\t I Z λvs d=>sp (x::vs) d Q E0
abbrev zC(X:Cx):=OkI X.prog X.w X.K X.mg X.base
def acJ(j:PE X o ta)(c:Cls X.K C)(i:Meth X.K C m f)(G:zC X ab k f ps sp)(g:dY k X.A)(n:PA X (e::es) t)
 (y:qS X e es:=by rfl)(z:qE X N es:=by rfl)
 (d:eval (.Call (.Attribute o m ai) (e::es) [] N) X.env=(do
   let b <- eval o X.env
   standAt ai.atName
   let(f,first) <- holding [b] (getMethod b m pl)
   callWith N f first (backTo N (starEach (e::es) X.env)) (backToKw N (keywordEach [] X.env))):=by rfl) :
  PE X (.Call (.Attribute o m ai) (e::es) [] N) (EC C m sp ta t):=by
 obtain⟨fd,F,l⟩:=G;refine(_i (pl:=pl) j.mono c i F g l .nil Py n.mono y z d).imp λI H Q h=>⟨_,h,?_⟩;rintro x Z ⟨a,w,v,u,s,r,p⟩;refine⟨a,w,v,u,s,r,_,p,λvs B q=>?_⟩;show sp (x::(vs++[])) B Q E0;rw[append_nil];exact q
def abj(i:PE X o ta)(c:Cls X.K C)(g:Meth X.K C m f)(G:zC X ab k f ps sp)(e:dY k X.A)
 (d:eval (.Call (.Attribute o m ai) [] [] N) X.env=(do
   let b <- eval o X.env
   standAt ai.atName
   let(f,first) <- holding [b] (getMethod b m pl)
   callWith N f first (backTo N (starEach [] X.env)) (backToKw N (keywordEach [] X.env))):=by rfl) :
  PE X (.Call (.Attribute o m ai) [] [] N) (EC C m sp ta ov):=by
 obtain⟨fd,F,j⟩:=G;refine(acq (pl:=pl) i.mono c g F e j .nil Py d).imp λI H Q h=>⟨_,h,?_⟩;rintro x Z ⟨a,s,r,q,p,n,l⟩;exact⟨a,s,r,q,p,n,l⟩
def ad6{D:Addr}{N:Pos}(b:Gl X x)(a:X.mg x=some (.ref D))(hd:qV x:=by decide):PE X (.Name x N) (tC (.ref D)):=Y9 b a rfl hd
end
def Pq{a:Obj}(e:(h.push o).get? b=some a)(c:b≠h.objs.size):h.get? b=some a:=by
 obtain⟨f,d⟩:=Heap.get?_some_iff.mp e;refine Heap.get?_some_iff.mpr ⟨?_,d⟩;cases h;simpa[Heap.push,Array.getElem?_push,c]using f
theorem Wi:∀{c:Φ}{vs:Θ},z5 (c.map V.str) vs->StrsAre vs c
 |[],_,h=>by cases h;exact .nil
 |y::c,_,h=>by
  rw[map_cons]at h;cases h with
  |cons a b =>
   obtain⟨t,rfl⟩:=a;exact .cons y t (Wi b)
def rJoin:V->Ζ->Hp->VK->Prop:=λx vs H Q=>∃a l b,x=.str a/\vs=[.ref l]/\H l=some (.lst (b.map V.str))/\(b.map (·.length)).sum+b.length*a.length<=16777216/\Q (.str (Txt.join a b)) H
def _q:mh X "str.join" rJoin:=by
 intro U s I H x vs v o Q b c d h;obtain⟨a,l,m,rfl,rfl,j,i,q⟩:=h;obtain⟨t,rfl⟩:=c;obtain⟨u,rfl,f⟩:=d.one;cases f;obtain⟨_,g,n,r,_,e⟩:=b.lstM j;exact join_list ⟨_,e,rfl,n,rfl⟩ (by simpa using Wi r) i λp k=>⟨.str _,H,b.tok _,⟨_,rfl⟩,q⟩
def _W{r:Nat}{f:Str}{g K:Pos}{J p:Φ}(E:Vh X O J ext fn)(hc:X.calm)(hJ:PJ J X.N=p)(c5:O.kind=.function)(dk:∀y∈O.names,y.2=.local->O.names.lookup y.1=some .local)
 (bP:∀y∈O.names,y.2=.free->X.env.kindOf y.1=some .cell\/X.env.kindOf y.1=some .free)(gi:∀y∈X.N,y∉J->(relabel O X.env).names.lookup y≠some .local)(t:∀y∈X.N,y∈J->(relabel O X.env).names.lookup (hid y)=none)(W:PI X tg iter wi)
 (Y:∀C c d l j,PG (X.compE ext fn p O J C c d l j) tg gt)(T:∀C c d l j,PTs (X.compE ext fn p O J C c d l j) aS tc)(he:∀C c d l j,PE (X.compE ext fn p O J C c d l j) be te)(gX:PG X (.Name f g) (Df r))(gT:swapsWith (.ListComp be [⟨tg,iter,aS,0⟩] O N) (some (.Name f g)) K.line X.env=pure true)(V:zg X iter) :
  PS X (.Assign [.Name f g] (.ListComp be [⟨tg,iter,aS,0⟩] O N) K) (lv (uI wi J.length gt tc te) (Df r)):=by
 intro U s I H w a h;have h:uI wi J.length gt tc te I H (λx Z=>Df r x I Z w.nx):=h;rw[exec_Assign_Name_used _ _ _ _ gT];refine ZU (wpAny_standAt (ZU ?_));show wpAny _ X.A (comprehension (.ListComp be [⟨tg,iter,aS,0⟩] O N) O X.env _ (newList []) false (eval iter X.env) (some (assign (.Name f g) X.env)) >>= λ_=>_) _ _ s;refine ZU (wpAny_mono (Pb (use:=some (assign (.Name f g) X.env)) (post:=λ_ F=>SP X U w .next F) E hc hJ c5 dk bP gi t W Y T he V a h λC D Hc B m fl G I6 n P=>?_) (λ_ F t=>ZT (ZT t)) λ_ _ e=>e);obtain⟨oc,es,ep,u,S,_⟩:=id G;have I7:=I6.pinned (fp:=[C]) (λb k=>by rwa[YR.mp k]) λb k=>by
  rw[YR.mp k];exact⟨oc,u,λv z=>by rw[S]at z;cases z⟩
 show wpAny _ X.A (assign (.Name f g) X.env _) _ _ B;refine ah (gX _ B I Hc (.ref D) _ w.nx I7 rfl P) λ_ M hP=>?_;obtain⟨q,H7,L,Q⟩:=hP;have i:=L.pin (C,oc) (aP _ (aP _ (sY wr u)));refine⟨m,G.at' λo e=>?_,λh' R=>⟨q,H7,L.unpinned.turned (it:=C) (h':=h') (t':=M.toks) (λb o k e=>(R.2 b k).trans e) i.2.1 n.2.1 n.2.2.2.1 n.2.2.2.2.1 n.2.2.2.2.2,Q⟩⟩;rw[u]at e;cases e;exact i.1
def Inv.turnedL{t':Nat}{ch:Ψ}(a:Inv X U I H s)(k:∀b o,b∉ch->s.heap.get? b=some o->h'.get? b=some o)(d:∀b∈ch,JK X U H b):Inv X U I H { s with heap:=h',toks:=t' }:=by
 have g:∀b u,H b=some u->b∉ch:=λb u e z=>by rw[(d b z).1]at e;cases e
 refine a.step (g':=s.gens) (d':=s.drawn) (ch:=ch) (λb f=>⟨(d b f).2.2.2.1,(d b f).2.1,(d b f).2.2.2.2.1,(d b f).2.2.2.2.2⟩) (λb o _ _ hc e _=>k b o hc e) (λb o _ _ hc e _=>⟨o.slots,k b o hc e⟩) (λ_ _ _ _ n=>n) (λb o hc e=>⟨o,k b o hc e⟩) (λ_ _ e=>e) (λ_ _ _ e=>e) (λb ps e=>⟨#[],by rw[e];simp⟩) (λm j=>?_) (λb u e=>?_) a.bare
 .obtain⟨o,es,l,i,r⟩:=j;exact⟨o,es,l,k _ o (λz=>(d _ z).2.1 rfl) i,r⟩
 .refine(a.hok b u e).stay (λc v hc q=>k c v ?_ q) (λ_ q=>q) λ_ _ q=>q;rcases hc with z|z
  .rw[z];exact g b u e
  .exact g c _ z
def p8(a b:Addr):It:=⟨λi H=>∃J c,H a=some (.lst J)/\H b=some (.lst c)/\i<J.length/\i<c.length,λi H v Y=>∃J c x y t,H a=some (.lst J)/\H b=some (.lst c)/\J[i]?=some x/\c[i]?=some y/\H t=none/\v=.ref t/\Y=upd H t (.tup [x,y]),λi H=>∃J c,H a=some (.lst J)/\H b=some (.lst c)/\(J.length<=i\/c.length<=i)⟩
def rD{g:Heap}{l:Addr}(x:h.IsListIter a l i)(k:∀o,h.get? a=some o->g.get? a=some o):g.IsListIter a l i:=by obtain⟨o,e,r⟩:=x;exact⟨o,k o e,r⟩
def QL{vs:Θ} : z5 J vs->∀{i:Nat}{x:V},J[i]?=some x->∃u,vs[i]?=some u/\z4 x u:=by
 intro h
 induction h with
 |nil=>intro i x e;cases e
 |cons a b c =>
  intro i x e;cases i with
  |zero=>rw[List.getElem?_cons_zero]at e;cases e;exact⟨_,rfl,a⟩
  |succ i=>rw[List.getElem?_cons_succ]at e ⊢;exact c e
def acQ{x1}(z TI TO l j Y W:Addr)(D:ZipApart z TI TO l j Y W) :
  Turn P w K (.Tuple cx x1 N) (p8 Y W) [z,TI,TO,l,j] z (λi h=>IsZip h z TI TO .none/\IsPair h TI (.ref l) (.ref j)/\(∃p q,IsPair h TO p q)/\h.IsListIter l Y i/\h.IsListIter j W i) where
 mem:=by simp
 obj:=by
  rintro i h ⟨g,m,⟨p,q,B⟩,⟨o4,A,_,d4⟩,⟨o5,t,_,d5⟩⟩ b f;simp only[YU,US,or_false]at f;rcases f with rfl|rfl|rfl|rfl|rfl
  .exact⟨_,g,λv e=>by cases e⟩
  .exact⟨_,m,λv e=>by cases e⟩
  .exact⟨_,B,λv e=>by cases e⟩
  .exact⟨_,A,λv e=>by rw[d4]at e;cases e⟩
  .exact⟨_,t,λv e=>by rw[d5]at e;cases e⟩
 keep:=λi h h' ⟨g,m,⟨p,q,B⟩,A,t⟩ k=>⟨k z wr _ g,k TI wr _ m,⟨p,q,k TO wr _ B⟩,rD A (k l wr),rD t (k j wr)⟩
 item:=by
  intro X hP hw hK hc i U s I H E d G st hg;subst hP hw hK;obtain⟨g,m,⟨p,q,B⟩,A,t⟩:=st;obtain⟨J,r,L,f,nE,S⟩:=hg;obtain⟨_,f',R,g7,V,g1⟩:=d.lstM L;obtain⟨_,Z,Q,i8,T,g2⟩:=d.lstM f;have ex:J[i]?=some J[i]:=aj nE;have ey:r[i]?=some r[i]:=aj S;obtain⟨u,hu,ru⟩:=QL g7 ex;obtain⟨v,hv,rv⟩:=QL i8 ey;refine wpAny_pyNext_zip_item D g m B A t (xs:=f'.toArray) (ys:=Z.toArray) ⟨_,g1,rfl,R,rfl⟩ ⟨_,g2,rfl,Q,rfl⟩ (x:=u) (y:=v) (by simpa using hu) (by simpa using hv) λh' a1 a2 a3 a4 a5 a6 a7=>⟨_,rfl,?_⟩;refine wpAny_letOwnedTupleGo_zip a1 λh2 g6 sb=>?_;have nt:H s.zs=none:=d.fresh;have I1:=d.laid (a:=s.zs) (o:=.tup [J[i],r[i]]) (h':=s.heap.push { cls:=.type "tuple",data:=.seq #[u,v] }) (t':=s.toks) (λb q z=>aH _ z) (aG _)
   ⟨(by show 2<=sizeLine;decide),[u,v],.cons ru (.cons rv .nil),_,aW _ rfl,rfl,_,rfl⟩
  have nz:z≠s.zs:=aQ (aK g);have nO:TO≠s.zs:=aQ (aK B);have nI:TI≠s.zs:=aQ (aK m);have nh:l≠s.zs:=by obtain⟨o,e,_⟩:=A;exact aQ (aK e)
  have O:j≠s.zs:=by obtain⟨o,e,_⟩:=t;exact aQ (aK e)
  have kM:∀b∈[z,TI,TO,l,j],upd H s.zs (.tup [J[i],r[i]]) b=none:=by
   intro b f;have C:=(G b f).1;simp only[YU,US,or_false]at f;rcases f with rfl|rfl|rfl|rfl|rfl
   .exact(cA nz).trans C
   .exact(cA nI).trans C
   .exact(cA nO).trans C
   .exact(cA nh).trans C
   .exact(cA O).trans C
  have I2:=I1.turnedL (ch:=[z,TO,l,j]) (h':=h2) (t':=s.toks) (λb M f e=>by
   simp only[YU,US,or_false,not_or]at f;obtain⟨b1,b2,b3,b4⟩:=f;refine(sb.2 b b1).trans ?_;by_cases hs:b=s.zs
   .subst hs;have e2:=aW s.heap (o:={ cls:=.type "tuple",data:=.seq #[u,v] }) rfl;have e:(s.heap.push { cls:=.type "tuple",data:=.seq #[u,v] }).get? s.zs=some M:=e;rw[e2]at e;cases e;exact a5
   .exact a7 b _ b1 b2 b3 b4 (Pq e hs)) λb f=>by
    have db:b∈[z,TI,TO,l,j]:=by
     simp only[YU,US,or_false]at f ⊢;rcases f with h|h|h|h<;>simp[h]
    exact⟨kM b db,(G b db).2⟩
  have F:∀c o,c≠z->h'.get? c=some o->h2.get? c=some o:=λc o n e=>(sb.2 c n).trans e;exact⟨.ref _,_,I2,rfl,⟨J,r,_,_,_,L,f,ex,ey,nt,rfl,rfl⟩,⟨g6,F _ _ D.TIz (a7 _ _ D.TIz D.TITO D.TIi1 D.TIi2 m),⟨_,_,F _ _ D.TOz a2⟩,rD a3 λo e=>F _ _ D.i1z e,rD a4 λo e=>F _ _ D.i2z e⟩,kM⟩
 done:=by
  intro X hP hw hK hc i U s I H E d G st hg;subst hP hw hK;obtain⟨g,m,⟨p,q,B⟩,A,t⟩:=st;obtain⟨J,r,L,f,lt⟩:=hg;obtain⟨_,f',R,g7,V,g1⟩:=d.lstM L;obtain⟨_,Z,Q,i8,T,g2⟩:=d.lstM f;refine wpAny_pyNext_zip_end (d.ok.hd hc) D g m B A t (xs:=f'.toArray) (ys:=Z.toArray) ⟨_,g1,rfl,R,rfl⟩ ⟨_,g2,rfl,Q,rfl⟩ (by simp;lia) λh' k=>⟨rfl,d.turnedL (ch:=[z,TO,l,j]) (t':=s.toks) (λb M f e=>?_) λb f=>?_⟩
  .simp only[YU,US,or_false,not_or]at f;exact k b M f.1 f.2.1 f.2.2.1 f.2.2.2 e
  .exact G b (by
    simp only[YU,US,or_false]at f ⊢;rcases f with h|h|h|h<;>simp[h])
 self:=λ_ _ _ _ _ ⟨g,_⟩ h=>wpAny_pyIter_zip g h
def aaI(n b a:Nat)(d:b<n)(c:a<n):ZipApart (n+4) (n+2) (n+3) n (n+1) b a:=by
 constructor<;>first|exact aQ (by omega)|exact UK wp
def _Z(n b:Nat)(h:b=n+4\/b=n+2\/b=n+3\/b=n\/b=n+1):n<=b:=by lia
def boot_zip:bootBuiltins "zip"=some (.type "zip"):=by decide +kernel
def IX(d:TA):TI:=λI H R=>d I H λvs Z=>∃a b J c,vs=[.ref a,.ref b]/\Z a=some (.lst J)/\Z b=some (.lst c)/\R (p8 a b) Z
def P'{a b:Expr}{g:TA}{x}{W:Pos}(O:Gl X "zip")(M:X.mg "zip"=none)(P:PA X [a,b] g)(L:starEach [a,b] X.env=[(false,eval a X.env),(false,eval b X.env)]:=by rfl)(m:starEach [b] X.env=[(false,eval b X.env)]:=by rfl) :
  PI X (.Tuple cx x W) (.Call (.Name "zip" p) [a,b] [] N) (IX g):=by
 intro U s I H R c h;refine Call_ (Di c O M boot_zip (PyProof.Rows.callWith_type1 (ah (P N U s I H _ c h) λus d Q=>?_) (by rw[L,m]) (by rw[m];rfl)));obtain⟨vs,Z,f,A,B⟩:=Q;obtain⟨j,i,J,w,e,T,S,q⟩:=B;subst e;obtain⟨u,v,rfl,z,y⟩:=A.two;cases z;cases y;obtain⟨_,V,E,g7,G,g1⟩:=f.lstM T;obtain⟨_,K,D,i8,F,l⟩:=f.lstM S;have t:=aK g1;have r:=aK l;refine call_zip_2 (xs:=V.toArray) (ys:=K.toArray) ⟨_,g1,rfl,E,rfl⟩ ⟨_,l,rfl,D,rfl⟩ λh' o a2 a3 a4 a5 a6 Y=>?_;refine wpAny_pyIter_zip o ?_;refine⟨_,[d.zs+4,d.zs+2,d.zs+3,d.zs,d.zs+1],_,p8 j i,Z,rfl,f.kept (t':=d.toks) λb C e=>Y b C e,acQ _ _ _ _ _ j i (aaI _ _ _ t r),⟨o,a2,⟨_,_,a3⟩,a4,a5⟩,λb k=>?_,q⟩;have n:d.zs<=b:=by
  simp only[YU,US,or_false]at k;exact _Z _ _ k
 exact f.fpOk n (f.hok.fresh n)
def qf(b O:Scope):Scope:={ O with names:=O.names.map λ(n,k)=>if(k==NameKind.free&&b.kind == .function&&b.names.lookup n==some .cell)then(n,NameKind.cell)else(n,k) }
theorem Y5(c:Nat):∀(n:Nat)(a:Array Nat),((replicate n #[c]).foldl (· ++ ·) a).toList=a.toList++replicate n c
 |0,a=>by simp
 |n+1,a=>by
  rw[replicate_succ,foldl_cons,Y5 c n,Array.toList_append,WV]
  rfl
def My:R2:=λx y H Q=>∃c n,x=.str ⟨#[c]⟩/\y=.int n/\1<=n/\n<=1000/\∀z:Str,z.cps.toList=replicate n.toNat c->Q (.str z) H
def TL:OpR X (binaryOp .Mult) My:=by
 intro U s I H x y v u Q a j i h;obtain⟨c,n,rfl,rfl,m,l,q⟩:=h;obtain⟨t,rfl⟩:=j;obtain⟨k,rfl⟩:=i;have d:(⟨#[c]⟩ : Str).length=1:=rfl;have b:∀z:Str,z.cps.toList=replicate n.toNat c->(Made.str z).post (EP X U I Q) s:=λz f=>⟨by
  have:z.length=n.toNat:=by
   show z.cps.size=_;rw[<- Array.length_toList,f,aN]
  exact aL (show z.length<=1001 by lia) wf,.str z,H,a.tok _,⟨_,rfl⟩,q z f⟩
 refine PySem.P.mul_str ?_ (λ_ _=>?_) (λ_ _=>?_) ?_
 .rw[Zp wp,Zp wp];rfl
 .rw[d];have:1<=(2^63-1:Int)/n:=Int.le_ediv_of_mul_le (by omega) wp;lia
 .rw[d];unfold Builtin.Str.tooLong;exact Zp (by
   have:n.toNat<=1000:=by lia
   have e:1000<=sizeLine:=by decide
   lia)
 .split
  .lia
  .split
   .rename_i g
    rw[d]at g;have e:n.toNat=1:=by
     simp at g;lia
    refine⟨.str ⟨#[c]⟩,H,a,⟨t,rfl⟩,q _ ?_⟩;rw[e];rfl
   .refine b _ ?_;show((replicate n.toNat #[c]).foldl (· ++ ·) #[]).toList=_;rw[Y5];rfl
def Cx.compGC(X:Cx)(a:Φ)(O:Scope)(x0:Str)(C:Addr)(s₀:Shared)(H₀:Hp)(ex:Ψ)(pn:Δ):Cx :=
 { X with env:=compEnvC O ((x0,C+1)::xY X.env.cells O.names []) C X.env,N:=[x0]++a,s₀:=s₀,H₀:=H₀,outer:=X.stack,ex:=ex,fn:=λz=>z==x0,pn:=pn,xe:=λ_ _=>False }
theorem CT{env:Env}{x0:Str} : ∀{a:xN}{y:Str},y≠x0->((a.map λ(n,k)=>if(k==NameKind.free&&env.scope.kind == .function&&env.kindOf n==some .cell)then(n,NameKind.cell)else(n,k)).lookup y=some .cell \/
  (a.map λ(n,k)=>if(k==NameKind.free&&env.scope.kind == .function&&env.kindOf n==some .cell)then(n,NameKind.cell)else(n,k)).lookup y=some .free)->(∀z∈a,z.2=.cell->z.1=x0)->(y,NameKind.free)∈a
 |[],y,_,h,_=>by rcases h with h|h<;>cases h
 |(n,k)::r,y,d,h,hc=>by
  have f:=@CT env x0 r y d;have g:∀z∈r,z.2=.cell->z.1=x0:=λz i=>hc z (aJ _ i);simp only[map_cons]at h;by_cases b:(k==NameKind.free&&env.scope.kind == .function&&env.kindOf n==some .cell)
  .rw[ZY b]at h;have j:k=.free:=by
    simp only[and_eq_true,beq_iff_eq]at b;exact b.1.1
   subst j;simp only[lookup_cons]at h;cases c:y==n with
   |true=>rw[show y=n by simpa using c];exact aO
   |false=>rw[c]at h;exact aJ _ (f h g)
  .rw[ZZ b]at h;simp only[lookup_cons]at h;cases c:y==n with
   |true =>
    have e:y=n:=by simpa using c
    rw[c]at h;rcases h with h|h
    .cases h;exact absurd (e.trans (hc (n,.cell) aO rfl)) d
    .cases h;rw[e];exact aO
   |false=>rw[c]at h;exact aJ _ (f h g)
def N6{M:Model}{a:Addr}{k:xb}{c:Env}{Q:Env->Shared->Prop}(u:∀n f,cellsFrom n O.names f=(x0,n)::f)(t:∀h,pushCells h O.names=h.push { cls:=.type "cell",data:=.cell none })
 (r:∀g,g.Ns s.zs (λx=>([] : xh).reverse.lookup x)->g.IsCell (s.zs+1) none->(∀b o,s.heap.get? b=some o->g.get? b=some o)->Q (newEnv O s.zs a ((x0,s.zs+1)::k) qual none .none (some c) builtinsNs) { s with heap:=g,toks:=s.toks+([] : xh).length }) :
  wpAny M A (newFunctionEnv O a k [] qual none .none (some c)) Q E s:=by
 simp only[newFunctionEnv,Option.isSome_some,if_true];refine ZU (wpAny_alloc ?_);refine ZU (wpAny_layCells _ (λm d j=>by cases i:d==NameKind.cell<;>simp[i]) _ _ _ _ ?_);rw[u,t];have l:(s.heap.push { cls:=.type "dict",data:=.dict #[] }).objs.size=s.zs+1:=Heap.size_push ..;show wpAny _ _ (forIn ([] : xh) _ _ >>= _) _ _ _;rw[List.forIn_nil];refine ZU (ZT (ZT ?_));have q:=aW (s.heap.push { cls:=.type "dict",data:=.dict #[] }) (o:={ cls:=.type "cell",data:=.cell none }) rfl;rw[l]at q;show Q (newEnv O s.zs a ((x0,(s.heap.push { cls:=.type "dict",data:=.dict #[] }).objs.size)::k) qual none .none (some c) builtinsNs) _;rw[l];exact r _ ((Heap.Ns.new s.heap (.type "dict")).at' λo e=>aH _ e) ⟨_,q,rfl⟩ λb o e=>aH _ (aH _ e)
def Zz{d:Addr}(e : [(x0,d)].lookup y=some c):y=x0/\c=d:=by
 rw[lookup_cons]at e;cases a:y==x0 with
 |true=>rw[a]at e;cases e;exact⟨by simpa using a,rfl⟩
 |false=>rw[a]at e;cases e
def ext1(k:∀n a,cellsFrom n O.names a=(x0,n)::a)(j:∀h,pushCells h O.names=h.push { cls:=.type "cell",data:=.cell none })(d:∀y∈O.names,y.2=.cell->y.1=x0):Vh X O [x0] (λC=>[(x0,C+1)]) (λz=>z==x0) :=
 ⟨λi=>N6 k j λg o p f=>i g o (λy c e=>by rwa[(Zz e).2]) f,λC y c e=>by rw[(Zz e).2];exact X2 _,λC y z c m l=>(Zz m).1.trans (Zz l).1.symm,λC y e=>⟨C+1,by rw[beq_iff_eq.mp e];exact List.lookup_cons_self⟩,λC y e=>by
  rw[lookup_cons,beq_eq_false_iff_ne.mpr λz=>e (by rw[z];simp)]
  rfl,λC y e=>by
  by_cases b:y=x0
  .exact .inl ⟨C+1,by rw[b];exact List.lookup_cons_self⟩
  .exact .inr (CT b e d)⟩
def No:Ζ->Hp->VK->Prop:=λJ H Q=>∃(l:Addr)(a:wx),J=[.ref l]/\H l=some (.lst (a.map V.bl))/\Q (.bl (a.any id)) H
theorem xR:∀a:wx,((range a.length).any λi=>(a[i]?).getD true)=a.any id
 |[]=>rfl
 |b::a=>by
  rw[length_cons,List.range_succ_eq_map,any_cons,any_map,any_cons];have:=xR a;simp only[Function.comp_def,List.getElem?_cons_succ,List.getElem?_cons_zero,getD_some,id]at this ⊢;rw[this]
def abA(hc:X.calm):kW X (.builtin "any") No:=by
 intro U s I H J y Q a r h;obtain⟨l,d,rfl,n,q⟩:=h;obtain⟨u,rfl,k⟩:=r.one;cases k;obtain⟨c,f,p⟩:=a.lstIs n;have x:l<s.zs:=by obtain⟨_,e,_⟩:=p;exact aK e
 refine call_any_walk (wpAny_pyIter_list p ?_);refine⟨s.zs,[s.zs,l],[s.zs],c.toArray.size,_,_,λi=>(d[i]?).getD true,rfl,Walks.list (A:=X.A.in1) (a.ok.hd hc) _ l (aQ x) c.toArray,
  ⟨⟨_,aW _ rfl,rfl,rfl⟩,p.push _⟩,λi v z B C w g=>?_,λh' j t=>?_⟩
 .obtain⟨b,e,rfl⟩:=Hq f i v (by simpa using w);simp only[e,getD_some]at g;exact wpAny_truthy_bool g
 .have e:((range c.toArray.size).any λi=>(d[i]?).getD true)=d.any id:=by
   rw[aX,<- f.length,ak];exact xR d
  refine⟨.bl (d.any id),H,a.kept (t':=j) λb o q=>t b o (λm=>?_) (aH _ q),?_,q⟩
  .rw[YR.mp m]at q;exact Wp _ (aK q)
  .rw[e];rfl
def p9(l:Addr):It:=⟨λi H=>∃J,H l=some (.lst J)/\i<J.length,λi H v Y=>∃J x t,H l=some (.lst J)/\J[i]?=some x/\H t=none/\v=.ref t/\Y=upd H t (.tup [.int i,x]),λi H=>∃J,H l=some (.lst J)/\J.length<=i⟩
def abE{Z}(e m l:Addr)(R:e≠m) :
  Turn P w K (.Tuple cx Z N) (p9 l) [e,m] e (λi h=>(∃g,IsEnum h e m ((i:Nat):Int) g)/\h.IsListIter m l i) where
 mem:=by simp
 obj:=by
  rintro i h ⟨⟨g,j⟩,⟨o4,p,_,d4⟩⟩ b f;simp only[YU,US,or_false]at f;rcases f with rfl|rfl
  .exact⟨_,j,λv e=>by cases e⟩
  .exact⟨_,p,λv e=>by rw[d4]at e;cases e⟩
 keep:=λi h h' ⟨⟨g,j⟩,p⟩ k=>⟨⟨g,k e wr _ j⟩,rD p (k m wr)⟩
 item:=by
  intro X F hw G hc i U s I H E d r st D;subst F hw G;obtain⟨⟨g,j⟩,p⟩:=st;obtain⟨J,t,nE⟩:=D;obtain⟨_,M,B,L,C,g1⟩:=d.lstM t;have W:J[i]?=some J[i]:=aj nE;obtain⟨u,hu,ru⟩:=QL L W;refine wpAny_pyNext_enum_item j p (items:=M.toArray) ⟨_,g1,rfl,B,rfl⟩ (x:=u) (by simpa using hu) R λh' a1 a3 a5 a6 a7=>⟨_,rfl,?_⟩;refine wpAny_letOwnedTupleGo_enum a1 λT g6 O=>?_;have nt:H s.zs=none:=d.fresh;have I1:=d.laid (a:=s.zs) (o:=.tup [.int i,J[i]]) (h':=s.heap.push { cls:=.type "tuple",data:=.seq #[.int i s.toks,u] }) (t':=s.toks+1) (λb q z=>aH _ z) (aG _)
   ⟨(by show 2<=sizeLine;decide),[.int i s.toks,u],.cons ⟨_,rfl⟩ (.cons ru .nil),_,aW _ rfl,rfl,_,rfl⟩
  have nz:e≠s.zs:=aQ (aK j);have nh:m≠s.zs:=by obtain⟨o,e,_⟩:=p;exact aQ (aK e)
  have Q:∀b∈[e,m],upd H s.zs (.tup [.int i,J[i]]) b=none:=by
   intro b f;have V:=(r b f).1;simp only[YU,US,or_false]at f;rcases f with rfl|rfl
   .exact(cA nz).trans V
   .exact(cA nh).trans V
  have I2:=I1.turnedL (ch:=[e,m]) (h':=T) (t':=s.toks+1) (λb A f z=>by
   simp only[YU,US,or_false,not_or]at f;obtain⟨Y,b3⟩:=f;refine(O.2 b Y).trans ?_;by_cases S:b=s.zs
   .subst S;have e2:=aW s.heap (o:={ cls:=.type "tuple",data:=.seq #[.int i s.toks,u] }) rfl;have z:(s.heap.push { cls:=.type "tuple",data:=.seq #[.int i s.toks,u] }).get? s.zs=some A:=z;rw[e2]at z;cases z;exact a5
   .exact a7 b _ Y b3 (Pq z S)) λb f=>⟨Q b f,(r b f).2⟩
  have mv:∀c o,c≠e->h'.get? c=some o->T.get? c=some o:=λc o n z=>(O.2 c n).trans z;exact⟨.ref _,_,I2,rfl,⟨J,_,_,t,W,nt,rfl,rfl⟩,⟨⟨_,by rwa[Int.natCast_add]⟩,rD a3 λo z=>mv _ _ (λy=>R y.symm) z⟩,Q⟩
 done:=by
  intro X F hw G hc i U s I H E d r st D;subst F hw G;obtain⟨⟨g,j⟩,p⟩:=st;obtain⟨J,t,lt⟩:=D;obtain⟨_,M,B,L,C,g1⟩:=d.lstM t;have hl:=L.length;refine wpAny_pyNext_enum_end (d.ok.hd hc) j p (items:=M.toArray) ⟨_,g1,rfl,B,rfl⟩ (by simp;lia) λh' k=>⟨rfl,d.turnedL (ch:=[e,m]) (t':=s.toks) (λb A f z=>?_) r⟩;simp only[YU,US,or_false,not_or]at f;exact k b A f.2 z
 self:=λ_ _ _ _ _ ⟨⟨_,j⟩,_⟩ h=>wpAny_pyIter_enum j h
def Md(b:TA):TI:=λI H R=>b I H λvs Z=>∃a J,vs=[.ref a]/\Z a=some (.lst J)/\R (p9 a) Z
def WB{a:Expr}{g:TA}{m}{F:Pos}(A:Gl X "enumerate")(y:X.mg "enumerate"=none)(B:PA X [a] g)(x:starEach [a] X.env=[(false,eval a X.env)]:=by rfl) :
  PI X (.Tuple cx m F) (.Call (.Name "enumerate" p) [a] [] N) (Md g):=by
 intro U s I H R c h;refine Call_ (Di c A y boot_enumerate (PyProof.Rows.callWith_type1 (ah (B N U s I H _ c h) λL d C=>?_) (by rw[x];rfl) (by rfl)));obtain⟨vs,Z,f,o,r⟩:=C;obtain⟨i,J,e,D,q⟩:=r;subst e;obtain⟨u,rfl,n⟩:=o.one;cases n;obtain⟨_,E,v,M,w,g1⟩:=f.lstM D;refine call_enumerate_list (items:=E.toArray) ⟨_,g1,rfl,v,rfl⟩ λh' l K O G=>?_;refine wpAny_pyIter_enum l ?_;refine⟨_,[d.zs+1,d.zs],_,p9 i,Z,rfl,f.kept (t':=d.toks) λb t e=>G b t e,abE _ _ i (Nat.succ_ne_self _),⟨⟨_,l⟩,K⟩,λb j=>?_,q⟩;have k:d.zs<=b:=by
  simp only[YU,US,or_false]at j;rcases j with z|z
  .rw[z];exact Xs _
  .rw[z];exact aG _
 exact f.fpOk k (f.hok.fresh k)
def On(f:Addr)(sp:Sp)(tv:TE)(t:TA):TE:=λI H Q=>tv I H λv a=>v=.ref f/\t I a λvs Z=>sp vs Z Q E0
abbrev L8(C t:Addr)(d:Ξ):Obj:={ cls:=.ref C,dict:=d,data:=.fields #[.ref t,.none,.none,.none,.bool false,.none] }
def XN(a C:Addr)(d:Ξ):HO:=.ext λh=>∃t,h.get? a=some (L8 C t d)
def out(H:Hp)(a:Addr):Hp:=λb=>if b=a then none else H b
def ap{N P:Φ}{a:Scope}(f:a.kind=.function:=by rfl)(e:a.isCoroutine=false:=by rfl)(d:a.isGenerator=false:=by rfl)(b:N.Nodup/\(∀x∈P,a.names.lookup x=some .local\/a.names.lookup x=some .cell)/\∀y∈a.names,y.2≠.free:=by decide +kernel)(c:N.take P.length=P:=by rfl):bK N P a:=⟨f,e,d,b.1,c,b.2.1,b.2.2⟩
abbrev FM(sc O:Scope)(N N' J:Φ):Prop:=PJ J N=N'/\(∀y∈O.names,y.2=.local->O.names.lookup y.1=some .local)/\(∀y∈O.names,y.2=.free->sc.names.lookup y.1=some .cell\/sc.names.lookup y.1=some .free) /\
 (∀y∈N,y∉J->(O.names.map λ(n,k)=>if(k==NameKind.free&&sc.kind == .function&&sc.names.lookup n==some .cell)then(n,NameKind.cell)else(n,k)).lookup y≠some .local)/\∀y∈N,y∈J->(O.names.map λ(n,k)=>if(k==NameKind.free&&sc.kind == .function&&sc.names.lookup n==some .cell)then(n,NameKind.cell)else(n,k)).lookup (hid y)=none
abbrev CK(sc O:Scope)(N N' J:Φ):Prop:=(∀y∈O.names,y.2≠.cell)/\FM sc O N N' J
def D0(g:Scope)(a f J:Φ)(l:PI X tg iter wi)(m:∀{C b c e d},PG (X.compG f O J C b c e d) tg gt)(j:∀{C b c e d},PTs (X.compG f O J C b c e d) aS tc)(n:∀{C b c e d},PE (X.compG f O J C b c e d) be te)
 (q:X.env.scope=g:=by rfl)(p:X.N=a:=by rfl)(o:X.calm:=by rfl)(i:O.kind=.function:=by rfl)(h:CK g O a f J:=by decide +kernel)(k:zg X iter:=by intro _;rfl):PE X (.ListComp be [⟨tg,iter,aS,0⟩] O N) (uI wi J.length (gl gt) (gj tc) (tM te)) :=
 by
 subst q p;exact Wy (uA i h.1) o h.2.1 i h.2.2.1 h.2.2.2.1 h.2.2.2.2.1 h.2.2.2.2.2 l (λ_ _ _ _ _=>m.mono) (λ_ _ _ _ _=>j.mono) (λ_ _ _ _ _=>n.mono) k
def L5{i j:Int}{d:Ξ}{n:Nat}{b:Array (Ω)}{t u:Tok}(l:K.lookup a=some ⟨.type "tuple",d,.seq #[.int i t,.int j u] n,b⟩):∀H,SqT K H a [.int i,.int j]:=λH=>.inr ⟨_,_,_,l,rfl,rfl,(by show 2<=sizeLine;decide),.cons ⟨_,rfl⟩ (.cons ⟨_,rfl⟩ .nil)⟩
def KB{i:Int}{t:Tok}(X:K.In h)(G:h.Ns mainGlobals mg)(l:nsIn K mainGlobals x=some (some (.int i t))):∃u,mg x=some u/\z4 (.int i) u:=⟨_,mg_of X G l,_,rfl⟩
def kF:Nat->(Θ->Prop)->Prop
 |0,P=>P []
 |n+1,P=>∀a,kF n λl=>P (a::l)
theorem J9:∀(n:Nat){P:Θ->Prop},kF n P->∀b:Θ,b.length=n->P b
 |0,_,h,[],_=>h
 |n+1,_,h,a::l,e=>J9 n (h a) l (Nat.succ.inj e)
section
variable{K:Frag}{h:Heap}{mg:Str->Ω}{x m qual:Str}{v:Value}{C f:Addr}{st:Stmt}{ps:Φ}{oc:Value}{od an:Ξ}{dQ:Array (Ω)}{kV bt pm ae ct:Value}{i j:Int}{d:Ξ}{n:Nat}{sl:Array (Ω)}{t u:Tok}
def gx(X:K.In h:=by assumption)(G:h.Ns mainGlobals mg:=by assumption)(e:nsIn K mainGlobals x=some (some v):=by k_is):mg x=some v:=mg_of X G e
def dV(X:K.In h:=by assumption)(G:h.Ns mainGlobals mg:=by assumption)(e:nsIn K mainGlobals x=some none:=by k_is):mg x=none:=PySem.W.mg_none_of X G e
def bz(e:findIn K (.ref C) x=some none:=by k_is):cD K C x:=e
def gs(a:findIn K (.ref C) m=some (some (.ref f)):=by k_is)(b:isFn K (.ref f):=by k_is)(c:keepIn K (.ref f):=by k_is):Meth K C m f:=⟨a,b,c⟩
def iF(a:makesIn K C:=by k_is)(b:findIn K (.ref C) "__init__"=some (some (.ref f)):=by k_is)(c:isFn K (.ref f):=by k_is)(e:keepIn K (.ref C):=by k_is):Mk K C f:=⟨a,b,c,e⟩
def hH(a:plainGet K C Str.empty:=by k_is)(b:hasDictIn K C:=by k_is)(c:plainOver K C:=by k_is)(e:findIn K (.ref C) "__setattr__"=some (some (.builtin "object.__setattr__")):=by k_is):Cls K C:=⟨a,b,c,e⟩
def qo(a:specialIn K (.ref C) "__getattribute__"=some (some (.builtin "type.__getattribute__")):=by k_is)(b:readsIn K C (.type "type"):=by k_is)(c:findCls K (.ref C) (.type "type") m=some (.val (.ref f)):=by k_is)(e:keepIn K (.ref f):=by k_is):IV K C m f:=⟨a,b,c,rfl,e⟩
def ql(X:K.In h:=by assumption)(G:h.Ns mainGlobals mg:=by assumption)(l:nsIn K mainGlobals x=some (some (.int i t)):=by k_is):∃u,mg x=some u/\z4 (.int i) u:=KB X G l
def qk(l:K.lookup C=some ⟨.type "tuple",d,.seq #[.int i t,.int j u] n,sl⟩:=by k_is):∀H,SqT K H C [.int i,.int j]:=L5 l
def ar(d:∀(kV bt pm:Value)(an:Ξ)(ae ct:Value),kF ps.length λb=>bindArgs (PySem.W.fnOf x x (h_ st) (dZ st) (bG st) .none kV bt pm an ae ct) ⟨b,[]⟩=pure (ps.zip b):=by repeat (first|rfl|intro _))(X:K.In h:=by assumption)(G:h.Ns mainGlobals mg:=by assumption)
 (a:nsIn K mainGlobals x=some (some (.ref f)):=by k_is)(l:K.lookup f=some ⟨oc,od,.func (PySem.W.fnOf x x (h_ st) (dZ st) (bG st) .none kV bt pm an ae ct),dQ⟩:=by k_is)
 (c:codeIn K ae x:=by k_is)(k:keepIn K (.ref f):=by k_is):cL K mg x st ps:=T' X G a l c k λkV bt pm an ae ct b e=>J9 _ (d kV bt pm an ae ct) b e
def f0(b:∀(kV bt pm:Value)(an:Ξ)(ae ct:Value),kF ps.length λa=>bindArgs (PySem.W.fnOf x qual (h_ st) (dZ st) (bG st) .none kV bt pm an ae ct) ⟨a,[]⟩=pure (ps.zip a):=by repeat (first|rfl|intro _))
 (l:K.lookup f=some ⟨oc,od,.func (PySem.W.fnOf x qual (h_ st) (dZ st) (bG st) .none kV bt pm an ae ct),dQ⟩:=by k_is)(c:codeIn K ae qual:=by k_is)(k:keepIn K (.ref f):=by k_is):Ce K x qual st ps f:=V' l c k λkV bt pm an ae ct a e=>J9 _ (b kV bt pm an ae ct) a e
end
def MY:R2:=λx y H Q=>∃l b J a,x=.ref l/\y=.ref b/\H l=some (.lst J)/\H b=some (.lst a)/\J.length+a.length<=sizeLine/\∀p Y,z0 H Y->H p=none->Y p=some (.lst (J++a))->Q (.ref p) Y
def Yf:OpR X (binaryOp .Add) MY:=Sj.imp λx y H Q d=>by obtain⟨l,b,J,c,h,g,f,e,z,q⟩:=d;exact⟨l,b,J,c,h,g,f,e,z,λp a=>q p _ (z0.upd a) a cF⟩
def ij(P:Program)(w:World)(K:Frag)(mg:Str->Ω)(base:Heap)(k:Nat)(f:Addr)(ps:Φ)(sp:Sp):Prop :=
 ∃fd o,bW P w K mg base ab k f fd ps sp/\Binds K fd ps []/\base.get? f=some o/\o.data=.func fd
def Vc{M:Model}(hd:o.data=.func fd)(h:Heap)(e:h.get? f=some o):∃k,(k=Keeper.frame\/k=Keeper.machine\/k=Keeper.boundFrame)/\PySem.W.Looks M h (keeperOf (.ref f)) k:=by
 refine⟨.frame,.inl rfl,(PySem.W.Looks.ld (part:=none) e).andThen ?_⟩;rw[hd];exact .now
def abN(G:ij X.prog X.w X.K X.mg X.base k f ps sp)(y:dY k X.A)(n:PE X (.Name x p) tv)(C:PA X (e::es) t)
 (B:qS X e es:=by rfl)(D:qE X N es:=by rfl):PE X (.Call (.Name x p) (e::es) [] N) (On f sp tv t):=by
 obtain⟨fd,o,F,b,z,hd⟩:=G;intro U s I H Q a h;refine wpAny_Call_Name_kw (ah (n U s I H _ a h) ?_);rintro u g ⟨v,J,E,l,rfl,m⟩;cases l;have i:wpAny (model X.prog X.w) X.A (spliced (backTo N (starEach (e::es) X.env))) (λd c=>c.heap.get? f=some o/\wpAny (model X.prog X.w) X.A (call (.ref f) ([]++d)) (EP X U I Q) X.xe c) X.xe g:=by
  refine ah (C N U g I J _ E m) ?_;rintro d c ⟨vs,Z,j,r,q⟩;refine⟨j.bk f o z,LC F y b .nil Py j r ?_⟩;rw[append_nil];exact q
 rw[B]at i ⊢;exact PySem.W.callWith_of (P:=λh=>h.get? f=some o) (by show((false || (backTo N (starEach es X.env)).any (·.1)) || false)=false;rw[D];rfl) (Vc hd) (PySem.Calls.evalArgs_plain i)
def nj(P:Program)(w:World)(K:Frag)(mg:Str->Ω)(base:Heap)(N:Φ)(qual:Str)(O:Scope)(f:Addr)(a:Value)(cl:xb)(A:Around)(outer:xt)(s:Shared)(H:Hp)(E:XK):Cx where
 prog:=P
 w:=w
 K:=K
 mg:=mg
 base:=base
 A:=A.deeper (envX qual O s.zs f a cl)
 N:=N
 s₀:=s
 H₀:=H
 env:=envX qual O s.zs f a cl
 outer:=outer
 stack:=envX qual O s.zs f a cl::outer
 ex:=[]
 calm:=true
 fn:=λ_=>false
 pn:=[]
 xe:=λe c=>wpAny (model P w) (A.deeper (envX qual O s.zs f a cl)) (leaving (envX qual O s.zs f a cl) e) (λ_ b=>ab outer H s E e b) (λd b=>ab outer H s E d b) c
inductive Cg(base:Heap)(O:Scope):xb->Ζ->Prop where
 |nil:Cg base O [] []
 |cons {x:Str}{c:Addr}{v:V}{u:Value}{cl:xb}{vs:Ζ} : O.names.lookup x=some .free->base.IsCell c (some u)->z4 v u->cl.lookup x=none->(∀y,(y,c)∉cl)->Cg base O cl vs->Cg base O ((x,c)::cl) (v::vs)
def Cg.len(h:Cg base O cl vs):cl.length=vs.length:=by
 induction h with
 |nil=>rfl
 |cons _ _ _ _ _ _ a=>simp[a]
def Cg.at{base:Heap}{O:Scope}{cl:xb}{vs:Ζ}(h:Cg base O cl vs){i:Nat}{x:Str}{v:V}(e:(cl.map (·.1))[i]?=some x)(a:(vs.map some)[i]?=some (some v)):O.names.lookup x=some .free/\∃c u,cl.lookup x=some c/\base.IsCell c (some u)/\z4 v u:=by
 induction h generalizing i with
 |nil=>simp at e
 |@cons y c q u cl vs n m l k r _ o =>
  cases i with
  |zero =>
   simp at e a;subst e;subst a;exact⟨n,c,u,by simp[List.lookup],m,l⟩
  |succ j =>
   simp at e a;obtain⟨f,p,b,q2,q3,d⟩:=o (i:=j) (by simpa using e) (by simpa using a);refine⟨f,p,b,?_,q3,d⟩;have g:(x==y)=false:=by
    cases z:x==y with
    |false=>rfl
    |true=>rw[beq_iff_eq.mp z,k]at q2;cases q2
   rw[lookup_cons,g];exact q2
def Cg.cells(h:Cg base O cl vs)(e:cl.lookup x=some c):∃u,base.IsCell c (some u):=by
 induction h with
 |nil=>cases e
 |@cons y c0 d u cl vs j a i g f _ b =>
  rw[lookup_cons]at e;split at e
  .cases e;exact⟨u,a⟩
  .exact b e
def yq(e:cl.lookup x=some c):(x,c)∈cl:=PySem.mem_of_lookup e
def Cg.inj(h:Cg base O cl vs)(e:cl.lookup x=some c)(d:cl.lookup y=some c):x=y:=by
 induction h with
 |nil=>cases e
 |@cons z c0 i u cl vs m l k j f _ g =>
  rw[lookup_cons]at e d;cases a:x==z<;>cases b:y==z<;>rw[a]at e<;>rw[b]at d
  .exact g e d
  .cases d;exact absurd (yq e) (f _)
  .cases e;exact absurd (yq d) (f _)
  .rw[beq_iff_eq.mp a,beq_iff_eq.mp b]
def YK{cd:Value}{frees:Ζ}{a:xt}{E:XK}{d:Heap}{tk:Tok}
 (N:O.kind=.function)(S:∀y∈O.names,y.2≠.cell)(L:O.names.lookup x=some .local)(T:∀y,O.names.lookup y=some .free->∃c,cl.lookup y=some c)(n:Cg base O cl frees)
 (hd:A.handled=none)(e:Lh P w K mg base A a s H)(r:z4 v u)
 (R:d.Ns s.zs (λy=>[(x,u)].reverse.lookup y))(t:∀b o,s.heap.get? b=some o->d.get? b=some o) :
  Inv (nj P w K mg base (x::cl.map (·.1)) qual O f cd cl A a s H E) [] (some v::frees.map some) H { s with heap:=d,toks:=tk }:=by
 have B:∀b:Addr,b∉(nj P w K mg base (x::cl.map (·.1)) qual O f cd cl A a s H E).ex:=λb z=>absurd (show b∈([] : Ψ)from z) wr;have C:∀c u,base.IsCell c (some u)->d.IsCell c (some u)/\H c=none:=λc u Q=>by obtain⟨o,F,hd⟩:=Q;exact⟨⟨o,t _ _ (e.bs _ _ F).1,hd⟩,(e.bs _ _ F).2⟩
 refine⟨⟨e.mod,N,rfl,rfl,aG _,λy z c k g=>n.inj k g,λy m=>?_,(λy c h=>nomatch h),λ_=>hd,Around.frames_deeper e.frames,.inr ⟨rfl,rfl⟩,λb z=>absurd z (B b),e.bs,e.bsz,λb _ _=>B b,λb z=>absurd z (B b),e.funs,e.frf⟩,
  rfl,e.bare,Un.kept t,⟨_,R,λi y D k g U=>?_⟩,λy c h=>?_,e.hok.fresh (aG _),λy c h=>?_,λp M=>absurd (show p∈([] : Δ)from M) wr,e.hok.kept t,?_⟩
 .rcases m with m|m
  .exact absurd rfl (S _ (PySem.mem_of_lookup m))
  .exact T y m
 .cases i with
  |zero =>
   have k:some x=some y:=k;have g:some (some v)=some (some D):=g;cases k;cases g;exact⟨u,r,.inl ⟨L,by show[(x,u)].lookup x=some u;simp[List.lookup]⟩⟩
  |succ j =>
   have k:(cl.map (·.1))[j]?=some y:=k;have g:(frees.map some)[j]?=some (some D):=g;obtain⟨J,c,l,q2,q3,I⟩:=n.at k g;exact⟨l,I,.inr ⟨.inr J,c,q2,(C c l q3).1⟩⟩
 .obtain⟨l,q⟩:=n.cells h;exact⟨_,(C c l q).1⟩
 .obtain⟨l,q⟩:=n.cells h;exact(C c l q).2
 .show _=(x::cl.map (·.1)).length;simp[n.len]
def N3{i:Addr}{g:Str}{n:Value}{frees:Ζ}
 (ho:base.get? f=some (kla_obj g qual params body O cl pm i n))(F:base.CodeRec (.ref i) qual)
 (R:O.kind=.function)(G:O.isCoroutine=false)(oB:O.isGenerator=false)(T:∀y∈O.names,y.2≠.cell)(hx:O.names.lookup x=some .local)(bP:∀y,O.names.lookup y=some .free->∃c,cl.lookup y=some c)(B:Cg base O cl frees)
 (j:∀vs H Q E,sp vs H Q E->vs.length=1)
 (bg:∀(A:Around)(d:xt)(s:Shared)(H:Hp)(v:V)(Q:VK)(E:XK),dY k (A.deeper (envX qual O s.zs f (.ref i) cl))->sp [v] H Q E ->
   ∃t,PE (nj P w K mg base (x::cl.map (·.1)) qual O f (.ref i) cl A d s H E) body t/\t (some v::frees.map some) H Q) :
  bW P w K mg base ab (k+1) f (PySem.W.kla_fn g qual params body O cl pm (.ref i) n) [x] sp:=by
 refine⟨λvs H Q E h=>j vs H Q E h,λA d s H U us vs Q E C m hb r S=>?_⟩;have N:=j _ _ _ _ S;obtain⟨v,rfl⟩ : ∃v,vs=[v]:=by
  cases vs with
  |nil=>cases N
  |cons v t=>cases t with
   |nil=>exact⟨v,rfl⟩
   |cons _ _=>cases N
 obtain⟨u,rfl,rv⟩ : ∃u,us=[u]/\z4 v u:=by
  cases r with
  |cons a t=>cases t;exact⟨_,rfl,a⟩
 have nK:s.heap.NoLimit:=m.mod.nolimit.keeps λb o e=>(m.bs b o e).1;obtain⟨c2,oc,X,L,e2,hV,l7,D⟩:=F;refine PySem.W.kla_callFunE C.depth (m.bs _ _ ho).1 rfl G oB rfl ⟨c2,oc,X,L,e2,(m.bs _ _ hV).1,l7,D⟩ (hb _ _ _ _ ?_);refine wpAny_newFunctionEnv T (λy z=>?_) (λl dt n9=>?_) R
 .have z:y∈[(x,u)]:=z;rwa[YR.mp z]
 have M:∀b o,s.heap.get? b=some o->l.get? b=some o:=λb o e=>n9.extBut b o (aQ (aK e)) (aH _ e);refine⟨nK.keeps M,PySem.W.kla_codeExpr ?_⟩;obtain⟨t,ht,D⟩:=bg A d s H v Q E (C.deeper _) S;have I:=YK (f:=f) (cd:=.ref i) (qual:=qual) (E:=E) (tk:=s.toks+[(x,u)].length) R T hx bP B C.hd m rv dt M;exact wpAny_mono (ht [] _ _ H _ I D) (λu' s' hP=>by obtain⟨Z,Y,J,p,q⟩:=hP;exact⟨Z,Y,J.os,J.bare,J.base,J.hok,p,q⟩) λe s' B=>B
def Mg(c:Addr)(qual:Str):HO:=.ext λh=>∃o vs t,h.get? c=some o/\o.data=.fields vs/\vs[1]?=some (.str qual t)
def Vf(f:Addr)(b:Value->Obj):HO:=.ext λh=>∃a,h.get? f=some (b a)
def trip(N:Pos)(c:Addr):xI:=#[rawInt N.line,rawInt N.col,.ref c]
def Cv(Pt:Addr)(N:Pos)(qual:Str)(H:Hp):Ξ->Prop
 |none=>H Pt=some (.tbl #[])
 |some c=>H Pt=some (.tbl (trip N c))/\H c=some (Mg c qual)
def K2(Pt:Addr)(N:Pos)(qual:Str)(a:Addr->Value->Obj):TE:=λI H Q=>∃oc,Cv Pt N qual H oc /\
 ∀f c Y,H f=none->f≠c->(oc=none->H c=none)->(∀c0,oc=some c0->c=c0)->Cv Pt N qual Y (some c)->Y f=some (Vf f (a c))->(∀b,b≠Pt->b≠c->b≠f->Y b=H b)->Q (.ref f) Y
def UG{q:Str}(r:h.CodeRec (.ref c) q):gM P w H h c (Mg c q):=by
 obtain⟨l,o,vs,t,e,f,hd,g⟩:=r;cases e;exact⟨⟨o,vs,t,f,hd,g⟩,⟨o,f⟩,λj i ⟨o,vs,t,a,b,d⟩ k=>⟨o,vs,t,k o a,b,d⟩⟩
def aa4{q:Str}(r:gM P w H h c (Mg c q)):h.CodeRec (.ref c) q:=by
 obtain⟨⟨o,vs,t,b,hd,a⟩,_⟩:=r;exact⟨c,o,vs,t,rfl,b,hd,a⟩
def Y8{b:Value->Obj}{ctv:Value}(e:h.get? f=some (b ctv)):gM P w H h f (Vf f b) :=
 ⟨⟨ctv,e⟩,⟨_,e⟩,λg d ⟨c,a⟩ k=>⟨c,k _ a⟩⟩
def SA(hB:X.base.BuiltinsAt X.mg Pt)(h8:X.env.code=.ref c0)(hC:codeHdIn X.K c0 Pt)(fq:closureFor O X.env=pure cl)(o0:defaultsOf params X.env=([],[]):=by rfl) :
  PE X (.Lambda params body O N) (K2 Pt N (X.env.qual++"<lambda>") λc i=>kla_obj "<lambda>" (X.env.qual++"<lambda>") params body O cl ((X.mg "__name__").getD .none) c i):=by
 intro U s I H Q g h;obtain⟨oc,D,q⟩:=h;have hg:s.heap.Ns mainGlobals X.mg:=g.ok.mod.glob.keeps g.bk;have C:PySem.W.CodeHd s.heap c0 Pt:=codeHd_of_K g.kIn hC;obtain⟨bm,ob,b1,b2,b3,b4,b5,b6⟩:=hB;have hb:s.heap.BuiltinsAt X.mg Pt:=⟨bm,ob,b1,b2,b3,b4,g.bk _ _ b5,b6⟩;refine PySem.W.kla_eval o0 ?_;cases oc with
 |none =>
  have G:s.heap.get? Pt=some (tabObj #[]):=g.hok Pt _ D;have Z:mainGlobals≠Pt:=λz=>by
   obtain⟨o,es,ep,e,hd,_⟩:=hg;rw[z,G]at e;cases e;cases hd
  refine PySem.W.kla_makeFunction fq g.ok.glob hg h8 C G trivial rfl Z hb λk i h' M P F eJ oj E=>?_;generalize y:kla_obj "<lambda>" (X.env.qual++"<lambda>") params body O cl ((X.mg "__name__").getD .none) k i=j;have hf:(h'.push j).get? h'.objs.size=some j:=aW _ (by rw[<- y];rfl);have m:∀{b:Addr}{o:Obj},h'.get? b=some o->(h'.push j).get? b=some o:=λe=>aH _ e;have lo:∀{b:Addr}{o:Obj},s.heap.get? b=some o->b≠k/\b≠h'.objs.size:=λe=>have z:=aR (aK e) F;⟨aQ z,aQ (UU z eJ)⟩;have l:∀{b:Addr}{u:HO},H b=some u->b≠k/\b≠h'.objs.size:=λe=>have z:=aR (g.hok.lt e) F;⟨aQ z,aQ (UU z eJ)⟩;have A:Pt≠k/\Pt≠h'.objs.size:=lo G;have L:k≠h'.objs.size:=aQ eJ
  let Y:Hp:=upd (upd (upd H Pt (.tbl (trip N k))) k (Mg k (X.env.qual++"<lambda>"))) h'.objs.size (Vf h'.objs.size λi=>kla_obj "<lambda>" (X.env.qual++"<lambda>") params body O cl ((X.mg "__name__").getD .none) k i)
  have eP:Y Pt=some (.tbl (trip N k)):=(cA A.2).trans ((cA A.1).trans cF);have ec:Y k=some (Mg k (X.env.qual++"<lambda>")):=(cA L).trans cF;have ef:Y h'.objs.size=some (Vf h'.objs.size λi=>kla_obj "<lambda>" (X.env.qual++"<lambda>") params body O cl ((X.mg "__name__").getD .none) k i):=cF;have p:∀b,b≠Pt->b≠k->b≠h'.objs.size->Y b=H b:=λb n1 n2 n3=>(cA n3).trans ((cA n2).trans (cA n1));have B:∀{b:Addr}{u:HO},H b=some u->(∀ps,u≠.tbl ps)->b≠Pt:=λe n z=>by rw[z,D]at e;cases e;exact n _ rfl
  have V:∀{b:Addr},H b=none->b≠Pt:=λe z=>by rw[z,D]at e;cases e
  have T:Un (ci X.stack) [] H Y s.heap (h'.push j):=by
   refine⟨λb o e n _ _=>m (P b o (V n) e),λb o e n _ _=>⟨o.slots,m (P b o (V n) e)⟩,λb o e n _=>?_,λb o e _=>?_,λb J e=>?_,λb o u e=>?_,λb ps e=>?_⟩
   .rw[p b (V n) (lo e).1 (lo e).2];exact n
   .by_cases z:b=Pt
    .subst z;exact⟨_,m E⟩
    .exact⟨o,m (P b o z e)⟩
   .rw[p b (B e (λ_ z=>by cases z)) (l e).1 (l e).2];exact e
   .rw[p b (B e (λ_ z=>by cases z)) (l e).1 (l e).2];exact e
   .by_cases z:b=Pt
    .subst z;rw[D]at e;cases e;exact⟨trip N k,by rw[eP];simp⟩
    .rw[p b z (l e).1 (l e).2];exact⟨#[],by rw[e];simp⟩
  have x:HOk X.prog X.w Y (h'.push j):=by
   intro b u e;by_cases z1:b=h'.objs.size
   .subst z1;rw[ef]at e;cases e;exact Y8 (ctv:=i) (by rwa[y])
   by_cases z2:b=k
   .subst z2;rw[ec]at e;cases e;obtain⟨c2,oc,vs,t,e2,ho,hd,hv⟩:=oj;exact UG ⟨c2,oc,vs,t,e2,m ho,hd,hv⟩
   by_cases S:b=Pt
   .subst S;rw[eP]at e;cases e;exact m E
   .rw[p b S z2 z1]at e;refine(g.hok b u e).stay (λd o hd r=>?_) (λd r=>?_) λd J r=>?_
    .refine m (P d o (λz=>?_) r);rcases hd with rfl|hd
     .exact S z
     .exact B hd (λ_ z=>by cases z) z
    .rw[p d (B r (λ_ z=>by cases z)) (l r).1 (l r).2];exact r
    .rw[p d (B r (λ_ z=>by cases z)) (l r).1 (l r).2];exact r
  have f:Inv X U I Y { s with heap:=h'.push j,toks:=M }:=g.call (g':=s.gens) (d':=s.drawn) (t':=M) (ch:=[]) T x g.bare λb z=>nomatch z
  subst y;refine⟨.ref h'.objs.size,Y,f,rfl,q h'.objs.size k Y ?_ L.symm (λ_=>?_) (λc0 z=>nomatch z) ⟨eP,ec⟩ ef p⟩
  .cases z:H h'.objs.size with
   |none=>rfl
   |some u=>exact absurd rfl (l z).2
  .cases z:H k with
   |none=>rfl
   |some u=>exact absurd rfl (l z).1
 |some c =>
  obtain⟨f8,fy⟩:=D;have G:s.heap.get? Pt=some (tabObj (trip N c)):=g.hok Pt _ f8;refine PySem.W.kla_makeFunctionHit (cv:=.ref c) fq g.ok.glob hg h8 C G (by simp[TriplesOk,trip,rawInt]) (by simp[codeAmong,trip,rawInt]) hb λi h' M hk v=>?_;generalize y:kla_obj "<lambda>" (X.env.qual++"<lambda>") params body O cl ((X.mg "__name__").getD .none) c i=j;have hf:(h'.push j).get? h'.objs.size=some j:=aW _ (by rw[<- y];rfl);have m:∀b o,s.heap.get? b=some o->(h'.push j).get? b=some o:=λb o e=>aH _ (hk b o e);have R:H h'.objs.size=none:=g.hok.fresh v;have L:c≠h'.objs.size:=jP fy R;have T:Un (ci X.stack) [] H (upd H h'.objs.size (Vf h'.objs.size λi=>kla_obj "<lambda>" (X.env.qual++"<lambda>") params body O cl ((X.mg "__name__").getD .none) c i)) s.heap (h'.push j):=Un.laid m v R;have x:=g.hok.laid (a:=h'.objs.size) (o:=Vf h'.objs.size λi=>kla_obj "<lambda>" (X.env.qual++"<lambda>") params body O cl ((X.mg "__name__").getD .none) c i) m v (Y8 (ctv:=i) (by rwa[y]));have f:=g.call (g':=s.gens) (d':=s.drawn) (t':=M) (ch:=[]) T x g.bare λb z=>nomatch z
  subst y;exact⟨.ref h'.objs.size,_,f,rfl,q h'.objs.size c _ R L.symm (λz=>nomatch z) (λc0 z=>by cases z;rfl) ⟨(cA (jP f8 R)).trans f8,(cA L).trans fy⟩ cF λb _ _ n=>cA n⟩
def wo(as:Ψ)(H:Hp):Hp:=λb=>if b∈as then none else H b
def yU(h:b∉as):wo as H b=H b:=by unfold wo;rw[ZZ h]
def Px(h:b∈as):wo as H b=none:=by unfold wo;rw[ZY h]
def xH{u:HO}(e:wo as H b=some u):b∉as/\H b=some u:=by
 by_cases h:b∈as
 .rw[Px h]at e;cases e
 .rw[yU h]at e;exact⟨h,e⟩
def BL(e:H b=none):wo as H b=none:=by
 unfold wo;split
 .rfl
 .exact e
def Fc : z0 (wo as H) H:=λb o e=>(xH e).2
def VN(base h:Heap)(L:Ψ):Heap:=hideAll h ((range h.objs.size).filter λb=>!(base.get? b).isSome && !decide (b∈L))
def YL : (VN base h L).objs.size=h.objs.size:=hideAll_size _ _
def Bv(e:h.get? b=some o)(k:(base.get? b).isSome=true\/b∈L):(VN base h L).get? b=some o:=by
 refine hideAll_get _ e λz=>?_;have:=(List.mem_filter.mp z).2;rcases k with k|k<;>simp[k]at this
def V0(e:(VN base h L).get? b=some o):h.get? b=some o/\((base.get? b).isSome=true\/b∈L):=by
 have a:h.get? b=some o:=of_hideAll _ e;refine⟨a,?_⟩;cases k:(base.get? b).isSome with
 |true=>exact .inl rfl
 |false =>
  by_cases m:b∈L
  .exact .inr m
  .have:(VN base h L).get? b=none:=hideAll_none _ (List.mem_filter.mpr ⟨List.mem_range.mpr (aK a),by simp[k,m]⟩);rw[this]at e;cases e
def W7(Pt:Addr)(N:Pos)(qual:Str)(e:Addr->Value->Obj)(js:xE)(spR:Ζ->Addr->Sp)(d:TA):TE:=λI H Q=>d I H λvs Z=>∃(f c:Addr)(frees:Ζ),Z f=some (Vf f (e c))/\f≠c/\Cv Pt N qual Z (some c)/\(js.map λj=>I[j]?)=frees.map (λv=>some (some v)) /\
 spR frees f vs (wo [Pt,c,f] Z) (λv Y=>∀a,(∀b,b≠Pt->b≠c->a b=Y b)->Cv Pt N qual a (some c)->Y Pt=none->Y c=none->Y f=none->Q v a) E0
theorem Zt{U:Δ}{I:St}{H:Hp}{s:Shared}{O:Scope}{B:Heap}(a:Inv X U I H s):∀{cl:xb}{js:xE}{frees:Ζ},(js.map λj=>I[j]?)=frees.map (λv=>some (some v))->(js.map λj=>X.N[j]?)=cl.map (λq=>some q.1) ->
  (∀q∈cl,X.env.kindOf q.1=some .cell/\X.env.cells.lookup q.1=some q.2/\O.names.lookup q.1=some .free)->(cl.map (·.1)).Nodup->(∀q∈cl,∀o,s.heap.get? q.2=some o->B.get? q.2=some o)->Cg B O cl frees
 |[],js,frees,d,b,_,_,_=>by
  cases js with
  |nil=>cases frees with
   |nil=>exact .nil
   |cons _ _=>cases d
  |cons _ _=>cases b
 |(x,c)::cl,js,frees,d,b,h,F,t=>by
  cases js with
  |nil=>cases b
  |cons j js =>
   cases frees with
   |nil=>cases d
   |cons v frees =>
    simp only[map_cons,List.cons.injEq]at d b;obtain⟨n,k,C⟩:=h (x,c) aO;obtain⟨m,K,E⟩:=a.loc;obtain⟨u,r,l⟩:=E j x v b.1 d.1 (.inr (.inl n));have q:∃i,X.env.cells.lookup x=some i/\s.heap.IsCell i (some u):=by
     rcases l with⟨z,_⟩|⟨_,z⟩
     .rw[show X.env.kindOf x=some .cell from n]at z;cases z
     .exact z
    obtain⟨i,w,o,D,hd⟩:=q;rw[show X.env.cells.lookup x=some c from k]at w;cases w;have f:=List.nodup_cons.mp F;have A:cl.lookup x=none:=by
     cases e:cl.lookup x with
     |none=>rfl
     |some J=>exact absurd (YV.mpr ⟨(x,J),yq e,rfl⟩) f.1
    refine .cons C ⟨o,t _ aO o D,hd⟩ r A (λy p=>?_) (Zt a d.2 b.2 (λq g=>h q (aJ _ g)) f.2 λq g=>t q (aJ _ g));obtain⟨_,G,_⟩:=h (y,c) (aJ _ p);have:=a.ok.inj x y c k G;subst this;exact f.1 (YV.mpr ⟨(x,c),p,rfl⟩)
def Yb(hg:Gl X x)(hm:X.mg x=some (.ref fR))(hk:keepIn X.K (.ref fR))(hb:Binds X.K fd ps [])(hr:dY k X.A)
 (F:∀T frees f,ij X.prog X.w X.K X.mg T kL f [y] (spL frees)->bW X.prog X.w X.K X.mg T ab k fR fd ps (spR frees f))
 (L:∀T frees f c D,T.get? f=some (kla_obj "<lambda>" qual params body O cl pm c D)->T.CodeRec (.ref c) qual->Cg T O cl frees->ij X.prog X.w X.K X.mg T kL f [y] (spL frees))
 (hj:(js.map λj=>X.N[j]?)=cl.map (λq=>some q.1))(fq:∀q∈cl,X.env.kindOf q.1=some .cell/\X.env.cells.lookup q.1=some q.2/\O.names.lookup q.1=some .free)(nd:(cl.map (·.1)).Nodup)(iX:∀q∈cl,X.fn q.1)
 (ha:PA X (e::es) t)(cr:qV x:=by decide)
 (he:qS X e es:=by rfl)(bj:qE X bo es:=by rfl) :
  PE X (.Call (.Name x p) (e::es) [] bo) (W7 Pt N qual (λc D=>kla_obj "<lambda>" qual params body O cl pm c D) js spR t):=by
 intro U s I H Q g h;refine wpAny_Call_Name_kw (Ej g hg hm ?_ cr);refine callWith_K (h₀:=X.base) g.ok.mod.kin hk (ah (ha bo U s I H _ g h) ?_) he bj;rintro us C ⟨vs,Z,a,r,f,c,frees,hf,nfc,⟨R,P⟩,jI,q⟩;refine⟨a.kIn,?_⟩;obtain⟨D,W⟩:=(a.hok f _ hf).1;have rc:C.heap.CodeRec (.ref c) qual:=aa4 (a.hok c _ P);obtain⟨_,oc,ws,tw,ez,hV,l7,hqc⟩:=rc;cases ez;have hP:C.heap.get? Pt=some (tabObj (trip N c)):=a.hok Pt _ R;have ncp:c≠Pt:=pu P R (by intro z;cases z);have nfp:f≠Pt:=pu hf R (by intro z;cases z)
 let Lk:Ψ:=f::c::cl.map (·.2)
 let B:=VN X.base C.heap Lk
 let V:=wo [Pt,c,f] Z
 have lT:∀{b:Addr}{u:HO},Z b=some u->(∀ps,u≠.tbl ps)->(∀φ,u≠.ext φ)->V b=some u:=λ{b u}e n1 n2=>(yU (by
  intro z;simp only[YU,US,or_false]at z;rcases z with z|z|z<;>subst z
  .rw[R]at e;cases e;exact n1 _ rfl
  .rw[P]at e;cases e;exact n2 _ rfl
  .rw[hf]at e;cases e;exact n2 _ rfl)).trans e
 have bB:∀b o,X.base.get? b=some o->B.get? b=some o:=λb o e=>Bv (a.bk b o e) (.inl (by rw[e];rfl));have mod:Mod X.K X.mg B:=by
  obtain⟨m1,m2,⟨mb,m3,m4⟩,m5⟩:=a.ok.mod;exact⟨m1.keeps bB,m2.keeps bB,⟨mb,m3.keeps bB,m4⟩,m5.keeps bB⟩
 have gv:∀q∈cl,Z q.2=none/\X.s₀.zs<=q.2/\q.2≠X.env.locals:=λq i=>by
  obtain⟨_,z,_⟩:=fq q i;exact⟨a.freeC _ _ z,a.ok.cab _ _ (iX q i) z,a.cne _ _ z⟩
 have bs:∀b o,B.get? b=some o->C.heap.get? b=some o/\V b=none:=λb o e=>by
  obtain⟨e1,k⟩:=V0 e;refine⟨e1,?_⟩;rcases k with k|k
  .obtain⟨o',cS⟩:=Option.isSome_iff_exists.mp k;exact BL (a.bs b o' cS).2
  .rcases YU.mp k with rfl|k
   .exact Px wr
   .rcases YU.mp k with rfl|k
    .exact Px wr
    .obtain⟨q,i,rfl⟩:=YV.mp k;exact BL (gv q i).1
 have stk:∀b∈ci X.stack,B.get? b=none:=λb db=>by
  cases z:B.get? b with
  |none=>rfl
  |some o =>
   have fr:=a.stkFree b db;rcases(V0 z).2 with k|k
   .have:=(a.stack.mem db).1;rw[this]at k;cases k
   .rcases YU.mp k with rfl|k
    .rw[hf]at fr;cases fr
    .rcases YU.mp k with rfl|k
     .rw[P]at fr;cases fr
     .obtain⟨q,i,rfl⟩:=YV.mp k;obtain⟨_,z1,z2⟩:=gv q i;rcases YU.mp (a.stkSub _ db)with w|w
      .exact absurd w z2
      .obtain⟨_,o',cS,_⟩:=a.ok.funs.mem w;exact absurd (aR (aK cS) z1) (Wp _)
 have funs:C.heap.FunFrames B X.stack:=by
  have all:∀(l:xt),(∀b∈ci l,B.get? b=none)->C.heap.FunFrames X.base l->C.heap.FunFrames B l:=by
   intro l
   induction l with
   |nil=>intro _ _;trivial
   |cons env r ih =>
    intro hs hl;obtain⟨ox,⟨L',o,oP,hn,ho,hd⟩,ku⟩:=hl;exact⟨ox,⟨L',o,oP,hs L' (by unfold ci;rw[j',oP];exact aO),ho,hd⟩,ih (λb db=>hs b (by unfold ci;rw[j',oP];exact aJ _ db)) ku⟩
  exact all X.stack stk a.stack
 have hok:HOk X.prog X.w V C.heap:=λb u e=>by
  obtain⟨nb,e'⟩:=xH e;exact(a.hok b u e').stay (λ_ _ _ z=>z) (λd z=>lT z (λ_ w=>by cases w) λ_ w=>by cases w) λd J z=>lT z (λ_ w=>by cases w) λ_ w=>by cases w
 have e0:Lh X.prog X.w X.K X.mg B X.A X.stack C V:=⟨a.ok.frames,mod,bs,by rw[YL];exact aG _,funs,λb z=>BL (a.stkFree b z),hok,a.bare⟩;have G:=F B frees f (L B frees f c D (Bv W (.inr aO)) ⟨c,oc,ws,tw,rfl,Bv hV (.inr (aJ _ aO)),l7,hqc⟩
  (Zt a jI hj fq nd λq i o ho=>Bv ho (.inr (aJ _ (aJ _ (YV.mpr ⟨q,i,rfl⟩))))))
 have hl:us.length=ps.length:=by rw[<- r.length];exact G.len _ _ _ _ q
 have j1:=hb C us a.kIn (by rwa[append_nil]);rw[append_nil]at j1;refine wpAny_call (codeAny_mono (G.run X.A X.stack C V ⟨[]++us,[]⟩ us vs _ E0 hr e0 j1 r q) ?_);intro res s' i;cases res with
 |error e=>exact i.elim
 |ok fl =>
  cases fl with
  |next=>exact False.elim i
  |brk=>exact False.elim i
  |cont=>exact False.elim i
  |ret u =>
   obtain⟨v,Y,os,bare,m,hok',rv,q'⟩:=i;have np:Pt∉ci X.stack:=λz=>by have:=a.stkFree _ z;rw[R]at this;cases this
   have nc:c∉ci X.stack:=λz=>by have:=a.stkFree _ z;rw[P]at this;cases this
   have hnP:V Pt=none:=Px wr;have hnC:V c=none:=Px wr;have kP:=m.keep Pt _ hP hnP np wr;have kC:=m.keep c _ hV hnC nc wr;have fP:=m.free Pt _ hP hnP wr;have fC:=m.free c _ hV hnC wr
   let S:Hp:=upd (upd Y Pt (.tbl (trip N c))) c (Mg c qual)
   have eP:S Pt=some (.tbl (trip N c)):=(cA ncp.symm).trans cF;have eC:S c=some (Mg c qual):=cF;have M:∀b,b≠Pt->b≠c->S b=Y b:=λb n1 n2=>(cA n2).trans (cA n1);have E:∀{b:Addr}{u:HO},Y b=some u->b≠Pt/\b≠c:=λe=>⟨(λz=>by rw[z,fP]at e;cases e),(λz=>by rw[z,fC]at e;cases e)⟩;have n0:∀{b:Addr},Z b=none->b≠Pt/\b≠c:=λe=>⟨(λz=>by rw[z,R]at e;cases e),(λz=>by rw[z,P]at e;cases e)⟩;have un':Un (ci X.stack) [] Z S C.heap s'.heap:=by
    refine⟨λb o e n=>m.keep b o e (BL n),λb o e n=>m.slot b o e (BL n),λb o e n z=>?_,m.there,λb J e=>?_,λb o u e=>?_,λb ps e=>?_⟩
    .rw[M b (n0 n).1 (n0 n).2];exact m.free b o e (BL n) z
    .have:=m.tups b J (lT e (λ_ w=>by cases w) λ_ w=>by cases w);rw[M b (E this).1 (E this).2];exact this
    .have:=m.frzs b o u (lT e (λ_ w=>by cases w) λ_ w=>by cases w);rw[M b (E this).1 (E this).2];exact this
    .by_cases z:b=Pt
     .subst z;rw[R]at e;cases e;exact⟨#[],by rw[eP];simp⟩
     .obtain⟨more,this⟩:=m.tbls b ps ((yU (by
       intro w;simp only[YU,US,or_false]at w;rcases w with w|w|w
       .exact z w
       .subst w;rw[P]at e;cases e
       .subst w;rw[hf]at e;cases e)).trans e)
      exact⟨more,by rw[M b (E this).1 (E this).2];exact this⟩
   have kx:HOk X.prog X.w S s'.heap:=λb u e=>by
    by_cases z1:b=c
    .subst z1;rw[eC]at e;cases e;exact UG ⟨_,oc,ws,tw,rfl,kC,l7,hqc⟩
    by_cases z2:b=Pt
    .subst z2;rw[eP]at e;cases e;exact kP
    rw[M b z2 z1]at e;exact(hok' b u e).stay (λ_ _ _ z=>z) (λd z=>by rw[M d (E z).1 (E z).2];exact z) λd J z=>by rw[M d (E z).1 (E z).2];exact z
   exact⟨v,S,a.call' os un' kx bare (λb z=>nomatch z),rv,q' S M ⟨eP,eC⟩ fP fC (m.free f _ W (Px wr) wr)⟩
def pe(Pt:Addr)(H:Hp):Prop:=∀b,b≠Pt->H b=none\/∃o J,H b=some (.frz o (.lst J))
def aa0{N:Str->Ω}{CX:eR}{S:Addr}{c:Shared}{vs:Θ}{B:xm}
 (X:K.In c.heap)(y:c.heap.get? Pt=some (tabObj #[]))(pM:K.lookup Pt=none)(hC:codeHdIn K c0 Pt)(hB:c.heap.BuiltinsAt mg Pt)
 (dt:c.heap.Ns mainGlobals mg)(f:c.heap.Ns builtinsNs N)(j1:∀x:Str,x≠"__name__"->N x=bootBuiltins x)(iO:c.heap.NoLimit)(hg:c.gens = #[])
 (t:c.heap.get? a=some { cls:=.type "list",data:=.seq vs.toArray })(hi:IntsAre vs B)(hl:B.length<=sizeLine)(hr:dY k callerA)
 (F:∀base:Heap,K.In base->base.Ns mainGlobals mg->base.BuiltinsAt mg Pt->bW P w K mg base CX k S fd [x] sp)(gu:∀(s:Shared)(u:Value),BindsTo s fd ⟨[u],[]⟩ [(x,u)])
 (eB:∀H:Hp,pe Pt H->H Pt=some (.tbl #[])->SqL K H a (B.map V.int)->sp [.ref a] H (λv _=>v=.bl true) λ_ _ _=>False)
 (kK:∀H e g,CX [] H c (λ_ _ _=>False) e g->False) :
  codeAny (model P w) callerA (.call (.ref S) ⟨[.ref a],[]⟩) (λr g=>r=.ok (.ret (.bool true))/\OldK c.heap g.heap/\g.os=c.os/\AllBare g.gens) c:=by
 have Z:=Bm hi;have iE:=hi.length;have C:a≠Pt:=λz=>by rw[z,y]at t;cases t
 have core:∀H:Hp,pe Pt H->H Pt=some (.tbl #[])->SqL K H a (B.map V.int)->HOk P w H c.heap->(∀b,H b≠none->b=a\/b=Pt)->(H a≠none->K.lookup a=none) ->
   codeAny (model P w) callerA (.call (.ref S) ⟨[.ref a],[]⟩) (λr g=>r=.ok (.ret (.bool true))/\OldK c.heap g.heap/\g.os=c.os/\AllBare g.gens) c:=by
  intro H hO hT hS D R hK;have T:∀{b:Addr}{o:Obj},c.heap.get? b=some o->H b=none->(DK c.heap H).get? b=some o:=λe n=>Ws e n;have f6:∀{b:Addr}{o:Obj}{es:Array DictEntry}{G:Nat},c.heap.get? b=some o->o.data=.dict es G->H b=none:=λ{b o es G}e d=>by
   cases q:H b with
   |none=>rfl
   |some u =>
    rcases R b (by rw[q];simp)with i|i
    .subst i;rw[t]at e;cases e;have d':Data.seq vs.toArray _=Data.dict es G:=d;cases d'
    .subst i;rw[y]at e;cases e;cases d
  have L:∀{b:Addr}{m:Str->Ω},c.heap.Ns b m->(DK c.heap H).Ns b m:=λ{b m}h=>by
   obtain⟨o,es,G,e,d,r⟩:=h;exact⟨o,es,G,T e (f6 e d),d,r⟩
  have kH:K.In (DK c.heap H):=λb o e=>T (X b o e) (by
   cases q:H b with
   |none=>rfl
   |some u =>
    rcases R b (by rw[q];simp)with i|i
    .subst i;rw[hK (by rw[q];simp)]at e;cases e
    .subst i;rw[pM]at e;cases e)
  have Q:(DK c.heap H).BuiltinsAt mg Pt:=by
   obtain⟨U,o,b1,b2,b3,b4,W,b6,b7⟩:=hB;refine⟨U,o,b1,b2,b3,b4,T W ?_,b6,b7⟩;cases q:H U with
   |none=>rfl
   |some u =>
    rcases R U (by rw[q];simp)with i|i
    .subst i;rw[t]at W;cases W;injection b6 with z;exact absurd z wf
    .exact absurd i b4
  have hM:Mod K mg (DK c.heap H):=⟨kH,L dt,⟨N,L f,j1⟩,by obtain⟨mc,h1,h2⟩:=iO;exact⟨mc,L h1,h2⟩⟩;have e0:Lh P w K mg (DK c.heap H) callerA [] c H:=⟨rfl,hM,λb o e=>Y_ e,WG (PB _ _),trivial,λb f=>absurd (show b∈([] : Ψ)from f) wr,D,.of_eq hg⟩;refine codeAny_mono ((F _ kH (L dt) Q).run callerA [] c H ⟨[.ref a],[]⟩ [.ref a] [.ref a] _ _ hr e0 (gu c (.ref a)) (.cons rfl .nil) (eB H hO hT hS)) λr g h=>?_;cases r with
  |error e=>exact(kK H e g h).elim
  |ok fl =>
   cases fl with
   |next=>exact False.elim h
   |brk=>exact False.elim h
   |cont=>exact False.elim h
   |ret u =>
    obtain⟨v,Y,os,I,M,p,r',q⟩:=h;have q':v=.bl true:=q;subst q';obtain rfl:u=Value.bool true:=r';have kp:∀b o,b≠Pt->c.heap.get? b=some o->g.heap.get? b=some o:=λb o n e=>by
     cases q:H b with
     |none=>exact M.keep b o e q (by intro z;exact absurd (show b∈([] : Ψ)from z) wr) wr
     |some u =>
      rcases hO b n with z|⟨ob,J,z⟩
      .rw[q]at z;cases z
      .have z2:=M.frzs b ob _ z;obtain⟨e1,_⟩:=D b _ z;obtain⟨e2,_⟩:=p b _ z2;rw[e]at e1;cases e1;exact e2
    obtain⟨l,hm⟩:=M.tbls Pt _ hT;have E:g.heap.get? Pt=some (tabObj (#[]++l)):=p Pt _ hm;refine⟨rfl,⟨λb o e=>?_,λb o e=>?_⟩,os,I⟩
    .by_cases z:b=Pt
     .subst z;rw[y]at e;cases e;exact .inr (.inl ⟨((codeHd_of_K X hC).tab y).isCodeTable,rfl,#[],l,rfl,E⟩)
     .exact .inl (kp b o z e)
    .by_cases z:b=Pt
     .subst z;exact⟨_,E⟩
     .exact⟨o,kp b o z e⟩
 cases O:K.lookup a with
 |some o =>
  have e:=X a o O;rw[t]at e;cases e;refine core (λb=>if b=Pt then some (.tbl #[])else none) (λb n=>.inl (ZZ n)) (ZY rfl) (.inr ⟨_,vs.toArray,_,O,rfl,rfl,rfl,by rw[aX,iE];exact hl,by simpa using Z⟩) (λb u z=>?_) (λb z=>?_) λz=>absurd (ZZ C) z
  .by_cases f:b=Pt
   .have j:=(ZY f).symm.trans z;cases j;subst f;exact y
   .have j:=(ZZ f).symm.trans z;cases j
  .by_cases f:b=Pt
   .exact .inr f
   .exact absurd (ZZ f) z
 |none =>
  refine core (λb=>if b=a then some (.frz { cls:=.type "list",data:=.seq vs.toArray } (.lst (B.map V.int)))else if b=Pt then some (.tbl #[])else none) (λb n=>?_) ((ZZ C.symm).trans (ZY rfl)) (.inl (.inr ⟨{ cls:=.type "list",data:=.seq vs.toArray },ZY rfl⟩)) (λb u z=>?_) (λb z=>?_) λ_=>O
  .by_cases f:b=a
   .exact .inr ⟨_,_,ZY f⟩
   .exact .inl ((ZZ f).trans (ZZ n))
  .by_cases f:b=a
   .have j:=(ZY f).symm.trans z;cases j;subst f;exact⟨t,by rw[ak];exact hl,vs,_,Z,t⟩
   .by_cases A:b=Pt
    .have j:=((ZZ f).trans (ZY A)).symm.trans z;cases j;subst A;exact y
    .have j:=((ZZ f).trans (ZZ A)).symm.trans z;cases j
  .by_cases f:b=a
   .exact .inl f
   .by_cases A:b=Pt
    .exact .inr A
    .exact absurd ((ZZ f).trans (ZZ A)) z
def Uj(K:Frag)(Pt:Addr):Sp:=λvs H Q _=>∃(a:Addr)(b:xm),vs=[.ref a]/\SqL K H a (b.map V.int)/\b.length<=63/\pe Pt H/\H Pt=some (.tbl #[])/\∀Y,Q (.bl true) Y
def ai0{l:PySem.W.OpenLaw}{q:Program}{c:Φ}{XP:(Str->Ω)->Heap->Prop}{E:World->Heap->Prop}{d:DefRec}{K:Params->Frag}(Pt:Addr)(c0:Addr)(P:l.most=some 63)(N:d.params.defaults=[])
 (O:dY k callerA)(V:∀(w:World)(h:Heap),E w h->(K w.params).In h/\h.get? Pt=some (tabObj #[]))(I:∀w:World,(K w.params).lookup Pt=none)(A:∀w:World,codeHdIn (K w.params) c0 Pt)
 (F:∀(w:World)(mg:Str->Ω)(m:Addr)(h:Heap),(K w.params).In h->h.Ns mainGlobals mg->mg d.name=some (.ref m) ->
   ∃st,cL (K w.params) mg d.name st [x]/\∀(base:Heap)(f:Addr)(fd:FuncData),base.BuiltinsAt mg Pt->Fun (K w.params) d.name d.name st f fd->bW l.prog w (K w.params) mg base ab k f fd [x] (Uj (K w.params) Pt)) :
  PySem.W.WalkO q c XP E l.row.toRowW d [] (λf vs=>PySem.call f vs):=by
 refine Att.Jc P N λw v i mg mb m o pm cd bt a vs M G Y ho hd a9 p gf d6 D R=>?_;obtain⟨t,y⟩:=V w _ Y;obtain⟨st,⟨f,fd,S,U,Q⟩,J⟩:=F w mg m _ t G.T.g p;rw[Q]at p;have e:f=m:=by injection p with z;injection z
 subst e;have C:=codeHd_of_K t (A w);obtain⟨bm,L,b1,b2,j,B,b5,r⟩:=G.T.bmain;have n:i.heap.BuiltinsAt mg Pt:=by
  refine⟨bm,L,b1,b2,λz=>?_,λz=>?_,j,B,b5,r⟩
  .obtain⟨o',es,ep,e,d',_⟩:=G.T.g;rw[z,e]at j;cases j;rw[d']at r;cases r
  .rw[z,y]at j;cases j;cases B
 exact aa0 (sp:=Uj (K w.params) Pt) t y (I w) (A w) n G.T.g G.T.b G.T.builtins G.T.nolimit R gf d6 (aL D wf) O (λbase _ _ n=>J base f fd n S) (λs u=>.of_eq (U [u] rfl)) (λH hO X Z=>⟨a,M,rfl,Z,D,hO,X,λ_=>rfl⟩) λH e s' z=>z
def afd(K:Frag)(mg:Str->Ω)(x:Str)(st:Stmt)(ps:Φ)(Pt:Addr):Prop :=
 ∃f fd c,Fun K x x st f fd/\(∀a:Θ,a.length=ps.length->bindArgs fd ⟨a,[]⟩=pure (ps.zip a))/\mg x=some (.ref f)/\fd.code=.ref c/\codeHdIn K c Pt
def GH{j i:Ξ}{kV g d:Value}(N:Nat)(m:∀(kV g pm:Value)(i:Ξ)(o d:Value),kF N λb=>bindArgs (PySem.W.fnOf x x (h_ st) (dZ st) (bG st) .none kV g pm i o d) ⟨b,[]⟩=pure (ps.zip b))(n:ps.length=N:=by rfl)(X:K.In h:=by assumption)(G:h.Ns mainGlobals mg:=by assumption)
 (a:nsIn K mainGlobals x=some (some (.ref f)):=by k_is)(l:K.lookup f=some ⟨oc,j,.func (PySem.W.fnOf x x (h_ st) (dZ st) (bG st) .none kV g pm i (.ref c0) d),dQ⟩:=by k_is)
 (c:codeIn K (.ref c0) x:=by k_is)(k:keepIn K (.ref f):=by k_is)(z:codeHdIn K c0 Pt:=by kernel_rfl):afd K mg x st ps Pt :=
 ⟨f,_,c0,Xe l c k,λb e=>J9 N (m kV g pm i (.ref c0) d) b (e.trans n),mg_of X G a,rfl,z⟩
def ad2(X:Frag.In (K++[(a,o)]) h)(c:K.lookup a=none):K.In h/\h.get? a=some o:=by
 refine⟨λb u e=>X b u ?_,X a o ?_⟩
 .rw[kb,e];rfl
 .rw[kb,c];simp[List.lookup]
section
variable{X:Cx}{k:Nat}{f C B:Addr}{ps:Φ}{sp:Sp}{x m:Str}{p N ai:Pos}{e:Expr}{es:xw}{t:TA}
def NV(C:Addr)(sp:Sp)(t:TA):TE:=λI H Q=>t I H λvs Z=>∀x a,Z x=none->Z a=none->a≠x->sp (.ref x::vs) (upd (upd Z a (.own x)) x (.ins C a [])) (λv b=>v=.non/\Q (.ref x) b) E0
def _T(M:Mk X.K C f)(G:zC X ab k f ps sp)(a:dY (k+1) X.A)(c:Gl X x)(b:X.mg x=some (.ref C))(i:PA X (e::es) t)(o:qV x:=by decide)
 (d:qS X e es:=by rfl)(r:qE X N es:=by rfl):PE X (.Call (.Name x p) (e::es) [] N) (NV C sp t):=by
 obtain⟨fd,F,g⟩:=G;refine(_2 M F a c b g .nil Py i.mono o d r).imp λI H Q h=>⟨_,h,λvs Z q x n m l j=>?_⟩;rw[append_nil];exact q x n m l j
def ac7(c:IV X.K B m f)(G:zC X ab k f ps sp)(d:dY k X.A)(h:Gl X x)(g:X.mg x=some (.ref B))(j:PA X (e::es) t)(l:qV x:=by decide)
 (n:qS X e es:=by rfl)(o:qE X N es:=by rfl)
 (b:eval (.Call (.Attribute (.Name x p) m ai) (e::es) [] N) X.env=(do
   let a <- eval (.Name x p) X.env
   standAt ai.atName
   let(f,first) <- holding [a] (getMethod a m pl)
   callWith N f first (backTo N (starEach (e::es) X.env)) (backToKw N (keywordEach [] X.env))):=by rfl) :
  PE X (.Call (.Attribute (.Name x p) m ai) (e::es) [] N) (Xq sp t):=by
 obtain⟨fd,F,i⟩:=G;exact _g (pl:=pl) c F d h g i j l n o b
end
inductive T where
 |any|non|bl (b:Bool)|int (i:Int)|str (s:Str)|val (v:V)
 |tup (W:List T)|lst (W:List T)|scr (W:List T)
 |dct (ks:xi) (W:List T)|ins (C:Addr) (ks:Φ) (W:List T)|exc (C:Addr) (ks:Φ) (W:List T)
abbrev xj:=List T
abbrev wb:=List xj
def abz(F:Hp):Ξ->xn->Prop
 |none,l=>l=[]
 |some d,l=>F d=some (.xd l)
mutual
inductive Rep(K:Frag)(F:Hp):V->T->Prop
 |any (v:V):Rep K F v .any
 |non:Rep K F .non .non
 |bl (b:Bool):Rep K F (.bl b) (.bl b)
 |int (i:Int):Rep K F (.int i) (.int i)
 |str (s:Str):Rep K F (.str s) (.str s)
 |val (v:V):Rep K F v (.val v)
 |tup {a:Addr}{J:Ζ}{W:xj} : SqT K F a J->bV K F J W->Rep K F (.ref a) (.tup W)
 |lst {a:Addr}{J:Ζ}{W:xj} : F a=some (.lst J)->bV K F J W->Rep K F (.ref a) (.lst W)
 |scr {a:Addr}{J:Ζ}{W:xj} : SqL K F a J->bV K F J W->Rep K F (.ref a) (.scr W)
 |dct {a:Addr}{ks:xi}{J:Ζ}{W:xj} : Rd F a (.dK (ks.zip J))->ks.length=J.length->bV K F J W->Rep K F (.ref a) (.dct ks W)
 |ins {a C dx:Addr}{ks:Φ}{J:Ζ}{W:xj} : F a=some (.ins C dx (ks.zip J))->F dx=some (.own a)->ks.length=J.length->bV K F J W->Rep K F (.ref a) (.ins C ks W)
 |exc {a C:Addr}{d:Ξ}{ks:Φ}{J:Ζ}{W:xj} : F a=some (XO a C d)->abz F d (ks.zip J)->ks.length=J.length->bV K F J W->Rep K F (.ref a) (.exc C ks W)
inductive bV(K:Frag)(F:Hp):Ζ->xj->Prop
 |nil:bV K F [] []
 |cons {x:V}{J:Ζ}{t:T}{W:xj} : Rep K F x t->bV K F J W->bV K F (x::J) (t::W)
end
variable{x:V}{W:xj}{S:Addr->Prop}
section
variable{K:Frag}{F F' H Y:Hp}
def z0.rd{u:HO}(S:z0 F F')(h:Rd F a u):Rd F' a u:=h.imp (S _ _) λb=>by obtain⟨o,e⟩:=b;exact⟨o,S _ _ e⟩
def abz.same{d:Ξ}{l:xn}(S:z0 F F')(h:abz F d l):abz F' d l:=by
 cases d with
 |none=>exact h
 |some d=>exact S _ _ h
mutual
theorem Rep.same(S:z0 F F'):∀{x:V}{t:T},Rep K F x t->Rep K F' x t
 |_,_,.any v=>.any v
 |_,_,.non=>.non
 |_,_,.bl b=>.bl b
 |_,_,.int i=>.int i
 |_,_,.str s=>.str s
 |_,_,.val v=>.val v
 |_,_,.tup e h=>.tup (S.tup e) (bV.same S h)
 |_,_,.lst e h=>.lst (S _ _ e) (bV.same S h)
 |_,_,.scr e h=>.scr (S.seq e) (bV.same S h)
 |_,_,.dct e l h=>.dct (S.rd e) l (bV.same S h)
 |_,_,.ins e d l h=>.ins (S _ _ e) (S _ _ d) l (bV.same S h)
 |_,_,.exc e d l h=>.exc (S _ _ e) (d.same S) l (bV.same S h)
theorem bV.same(S:z0 F F'):∀{J:Ζ}{W:xj},bV K F J W->bV K F' J W
 |_,_,.nil=>.nil
 |_,_,.cons h t=>.cons (Rep.same S h) (bV.same S t)
end
def Rep.lstI(h:Rep K F x (.lst W)):∃a J,x=.ref a/\F a=some (.lst J)/\bV K F J W:=by cases h;exact⟨_,_,rfl,by assumption,by assumption⟩
def Rep.tupI(h:Rep K F x (.tup W)):∃a J,x=.ref a/\SqT K F a J/\bV K F J W:=by cases h;exact⟨_,_,rfl,by assumption,by assumption⟩
def Rep.scrI(h:Rep K F x (.scr W)):∃a J,x=.ref a/\SqL K F a J/\bV K F J W:=by cases h;exact⟨_,_,rfl,by assumption,by assumption⟩
def Rep.dctI{b:xi}(h:Rep K F x (.dct b W)):∃a J,x=.ref a/\Rd F a (.dK (b.zip J))/\b.length=J.length/\bV K F J W:=by cases h;exact⟨_,_,rfl,by assumption,by assumption,by assumption⟩
def Rep.insI{C:Addr}{b:Φ}(h:Rep K F x (.ins C b W)):∃a c J,x=.ref a/\F a=some (.ins C c (b.zip J))/\F c=some (.own a)/\b.length=J.length/\bV K F J W:=by cases h;exact⟨_,_,_,rfl,by assumption,by assumption,by assumption,by assumption⟩
theorem bV.len:∀{J:Ζ}{W:xj},bV K F J W->J.length=W.length
 |_,_,.nil=>rfl
 |_,_,.cons _ t=>ZH (· + 1) (bV.len t)
theorem bV.app:∀{J c:Ζ}{W d:xj},bV K F J W->bV K F c d->bV K F (J++c) (W++d)
 |_,_,_,_,.nil,h=>h
 |_,_,_,_,.cons a b,h=>.cons a (bV.app b h)
theorem bV.at_:∀{J:Ζ}{W:xj}{i:Nat}{t:T},bV K F J W->W[i]?=some t->∃x,J[i]?=some x/\Rep K F x t
 |_,_,_,_,.nil,e=>by cases e
 |_,_,0,_,.cons a _,e=>by cases e;exact⟨_,rfl,a⟩
 |_,_,i+1,_,.cons _ b,e=>by
  obtain⟨x,q,r⟩:=bV.at_ (i:=i) b (by simpa using e);exact⟨x,by simpa using q,r⟩
theorem bV.of_at:∀{J:Ζ}{W:xj},J.length=W.length->(∀(i:Nat)x t,J[i]?=some x->W[i]?=some t->Rep K F x t)->bV K F J W
 |[],[],_,_=>.nil
 |x::J,t::W,l,h=>.cons (h 0 x t rfl rfl) (bV.of_at (Nat.succ.inj l) λi y u b a=>h (i+1) y u b a)
 |[],_::_,l,_=>by cases l
 |_::_,[],l,_=>by cases l
theorem bV.set{x:V}{t:T}(r:Rep K F x t):∀{J:Ζ}{W:xj}(i:Nat),bV K F J W->bV K F (J.set i x) (W.set i t)
 |_,_,_,.nil=>.nil
 |_,_,0,.cons _ h=>.cons r h
 |_,_,i+1,.cons a h=>.cons a (bV.set r i h)
theorem bV.take:∀{J:Ζ}{W:xj}(n:Nat),bV K F J W->bV K F (J.take n) (W.take n)
 |_,_,0,_=>.nil
 |_,_,_+1,.nil=>.nil
 |_,_,n+1,.cons a h=>.cons a (bV.take n h)
theorem bV.drop:∀{J:Ζ}{W:xj}(n:Nat),bV K F J W->bV K F (J.drop n) (W.drop n)
 |_,_,0,h=>h
 |_,_,_+1,.nil=>.nil
 |_,_,n+1,.cons _ h=>bV.drop n h
def hd(S:Addr->Prop)(H:Hp):Hp:=λb=>open Classical in if S b then none else H b
def sZ(h:S b):hd S H b=none:=by unfold hd;rw[ZY h]
def cY(h:¬S b):hd S H b=H b:=by unfold hd;rw[ZZ h]
def cW{o:HO}(e:hd S H b=some o):¬S b/\H b=some o:=by
 by_cases h:S b
 .rw[sZ h]at e;cases e
 .rw[cY h]at e;exact⟨h,e⟩
def jT{a:Addr->Prop}(i:∀b,a b->S b\/H b=none)(e:z0 H Y):z0 (hd S H) (hd a Y):=λb o h=>by
 obtain⟨n,h⟩:=cW h;rw[cY λz=>?_]
 .exact e _ _ h
 .rcases i b z with y|y
  .exact n y
  .rw[h]at y;cases y
def dW : z0 (hd S H) H:=λ_ _ h=>(cW h).2
def bU(e:z0 H Y):z0 (hd S H) (hd S Y):=jT (λ_=>.inl) e
def Zj:hd (λ_=>False) H=H:=funext λ_=>cY id
inductive OT where
 |und|fz (t:T)|l1 (W:xj)|l2 (aw:wb)|d1 (ks:xi) (W:xj)|ob (a dx C:Addr) (ks:Φ) (W:xj)|la (a:Addr) (W:xj)|pr (W us:xj)|gh (φ:Hp->V->Prop) (t:T)
abbrev xy:=List OT
def frz:OT->T
 |.und=>.any
 |.fz t=>t
 |.l1 W=>.lst W
 |.l2 c=>.lst (c.map T.lst)
 |.d1 a W=>.dct a W
 |.ob _ _ C a W=>.ins C a W
 |.la _ W=>.lst W
 |.pr W b=>.tup [.lst W,.lst b]
 |.gh _ t=>t
def Slo(K:Frag)(F H:Hp)(v:xD)(A:Ψ):OT->Prop
 |.und=>A=[]
 |.fz t=>A=[]/\∃u,v=some u/\Rep K F u t
 |.l1 W=>∃a J,v=some (.ref a)/\A=[a]/\H a=some (.lst J)/\bV K F J W
 |.l2 h=>∃a d,v=some (.ref a)/\A=a::d/\(a::d).Nodup/\H a=some (.lst (d.map V.ref))/\d.length=h.length/\∀(i:Nat)b W,d[i]?=some b->h[i]?=some W->∃J,H b=some (.lst J)/\bV K F J W
 |.d1 c W=>∃a J,v=some (.ref a)/\A=[a]/\H a=some (.dK (c.zip J))/\c.length=J.length/\bV K F J W
 |.ob a f C c W=>∃J,v=some (.ref a)/\A=[a,f]/\H a=some (.ins C f (c.zip J))/\H f=some (.own a)/\c.length=J.length/\bV K F J W
 |.la a W=>∃J,v=some (.ref a)/\A=[a]/\H a=some (.lst J)/\bV K F J W
 |.pr W j=>∃p a b J g,v=some (.ref p)/\A=[a,b]/\a≠b/\F p=some (.tup [.ref a,.ref b])/\H a=some (.lst J)/\H b=some (.lst g)/\bV K F J W/\bV K F g j
 |.gh e t=>A=[]/\(∀F F' u,z0 F F'->e F u->e F' u)/\∃u,v=some u/\e F u/\Rep K F u t
def Slo.same{v:xD}{A:Ψ}(S:z0 F F')(E:z0 H Y):∀{x:OT},Slo K F H v A x->Slo K F' Y v A x
 |.und,h=>h
 |.fz _,⟨a,u,e,r⟩=>⟨a,u,e,r.same S⟩
 |.l1 _,⟨a,J,e,z,h,r⟩=>⟨a,J,e,z,E _ _ h,r.same S⟩
 |.l2 _,⟨a,j,e,z,n,h,l,r⟩=>⟨a,j,e,z,n,E _ _ h,l,λi b W g f=>let⟨J,q,r⟩:=r i b W g f;⟨J,E _ _ q,r.same S⟩⟩
 |.d1 _ _,⟨a,J,e,z,h,l,r⟩=>⟨a,J,e,z,E _ _ h,l,r.same S⟩
 |.ob _ _ _ _ _,⟨J,e,z,h,d,l,r⟩=>⟨J,e,z,E _ _ h,E _ _ d,l,r.same S⟩
 |.la _ _,⟨J,e,z,h,r⟩=>⟨J,e,z,E _ _ h,r.same S⟩
 |.pr _ _,⟨p,a,b,J,c,e,z,n,t,h,k,r,q⟩=>⟨p,a,b,J,c,e,z,n,S _ _ t,E _ _ h,E _ _ k,r.same S,q.same S⟩
 |.gh _ _,⟨a,st,u,e,p,r⟩=>⟨a,st,u,e,st _ _ _ S p,r.same S⟩
def Slo.off{v:xD}{A:Ψ} : ∀{x:OT},Slo K F H v A x->(∀b∈A,∀u,H b=some u->Y b=some u)->Slo K F Y v A x
 |.und,s,_=>s
 |.fz _,s,_=>s
 |.l1 _,⟨a,J,e,z,w,r⟩,off=>⟨a,J,e,z,off a (by rw[z];simp) _ w,r⟩
 |.l2 _,⟨a,o,e,z,g,w,l,r⟩,off=>⟨a,o,e,z,g,off a (by rw[z];simp) _ w,l,λi b W c j=>let⟨J,q,r⟩:=r i b W c j;⟨J,off b (by rw[z];exact aJ _ (aC c)) _ q,r⟩⟩
 |.d1 _ _,⟨a,J,e,z,w,r⟩,off=>⟨a,J,e,z,off a (by rw[z];simp) _ w,r⟩
 |.ob a m _ _ _,⟨J,e,z,w,d,r⟩,off=>⟨J,e,z,off a (by rw[z];simp) _ w,off m (by rw[z];simp) _ d,r⟩
 |.la a _,⟨J,e,z,w,r⟩,off=>⟨J,e,z,off a (by rw[z];simp) _ w,r⟩
 |.pr _ _,⟨p,a,b,J,f,e,z,n,t,h,k,r⟩,off=>⟨p,a,b,J,f,e,z,n,t,off a (by rw[z];simp) _ h,off b (by rw[z];simp) _ k,r⟩
 |.gh _ _,s,_=>s
def adQ(H:Hp)(a:Addr):Prop:=∃o,H a=some o/\((∃J,o=.lst J)\/(∃k,o=.dK k)\/(∃C d f,o=.ins C d f)\/∃x,o=.own x)
def Slo.sole{v:xD}{A:Ψ}{x:OT}(h:Slo K F H v A x)(f:a∈A):adQ H a:=by
 cases x with
 |und=>rw[show A=[]from h]at f;cases f
 |fz t=>rw[h.1]at f;cases f
 |l1 W=>obtain⟨b,J,_,rfl,e,_⟩:=h;cases YR.mp f;exact⟨_,e,.inl ⟨_,rfl⟩⟩
 |l2 m =>
  obtain⟨b,w,_,rfl,_,e,l,r⟩:=h;rcases YU.mp f with z|z
  .exact⟨_,z ▸ e,.inl ⟨_,rfl⟩⟩
  .obtain⟨i,g⟩:=aV z;have j:i<m.length:=l ▸ (ao.mp g).1;obtain⟨J,q,_⟩:=r i a _ g (aj j);exact⟨_,q,.inl ⟨_,rfl⟩⟩
 |d1 k W=>obtain⟨b,J,_,rfl,e,_⟩:=h;cases YR.mp f;exact⟨_,e,.inr (.inl ⟨_,rfl⟩)⟩
 |ob b u C k W =>
  obtain⟨J,_,rfl,e,d,_⟩:=h;rcases YU.mp f with z|z
  .exact⟨_,z ▸ e,.inr (.inr (.inl ⟨_,_,_,rfl⟩))⟩
  .cases YR.mp z;exact⟨_,d,.inr (.inr (.inr ⟨_,rfl⟩))⟩
 |la b W=>obtain⟨J,_,rfl,e,_⟩:=h;cases YR.mp f;exact⟨_,e,.inl ⟨_,rfl⟩⟩
 |pr W s =>
  obtain⟨p,b,c,J,o,_,rfl,_,_,e,d,_⟩:=h;rcases YU.mp f with z|z
  .exact⟨_,z ▸ e,.inl ⟨_,rfl⟩⟩
  .cases YR.mp z;exact⟨_,d,.inl ⟨_,rfl⟩⟩
 |gh n t=>rw[h.1]at f;cases f
def Slo.frz{u:V}{A:Ψ}{x:OT}(h:Slo K F H (some u) A x)(S:z0 F F')(E:∀a∈A,F' a=H a):Rep K F' u (frz x):=by
 cases x with
 |und=>exact .any _
 |fz t=>obtain⟨_,w,e,r⟩:=h;cases e;exact r.same S
 |l1 W=>obtain⟨b,J,e,rfl,q,r⟩:=h;cases e;exact .lst ((E _ wr).trans q) (r.same S)
 |l2 y =>
  obtain⟨b,v,e,rfl,_,q,l,r⟩:=h;cases e;refine .lst ((E _ wr).trans q) (bV.of_at (by simp[l]) λi x t g f=>?_);rw[aq]at g f;cases j:v[i]? with
  |none=>rw[j]at g;cases g
  |some c =>
   cases k:y[i]? with
   |none=>rw[k]at f;cases f
   |some W =>
    rw[j]at g;rw[k]at f;cases g;cases f;obtain⟨J,q,r⟩:=r i c W j k;exact .lst ((E _ (aJ _ (aC j))).trans q) (r.same S)
 |d1 s W=>obtain⟨b,J,e,rfl,q,l,r⟩:=h;cases e;exact .dct (.inl ((E _ wr).trans q)) l (r.same S)
 |ob b G C s W=>obtain⟨J,e,rfl,q,d,l,r⟩:=h;cases e;exact .ins ((E _ wr).trans q) ((E _ wr).trans d) l (r.same S)
 |la b W=>obtain⟨J,e,rfl,q,r⟩:=h;cases e;exact .lst ((E _ wr).trans q) (r.same S)
 |pr W D =>
  obtain⟨p,b,c,J,B,e,rfl,_,t,o,q2,n,m⟩:=h;cases e;exact .tup (.inl (.of (S _ _ t))) (.cons (.lst ((E _ wr).trans o) (n.same S)) (.cons (.lst ((E _ wr).trans q2) (m.same S)) .nil))
 |gh z t=>obtain⟨_,_,w,e,_,r⟩:=h;cases e;exact r.same S
def Ow(a:Nat->Ψ)(b:Addr):Prop:=∃i,b∈a i
structure SR(K:Frag)(own:Nat->Ψ)(H:Hp)(I:L2.St)(o:xy):Prop where
 len:o.length=I.length
 sl:∀i x,o[i]?=some x->Slo K (hd (Ow own) H) H (I[i]?.join) (own i) x
 out:∀i,o.length<=i->∀a∈own i,∃J,H a=some (.lst J)
 dis:∀i j a,a∈own i->a∈own j->i=j
variable{own:Nat->Ψ}{I:L2.St}{o:xy}
def SR.same(h:SR K own H I o)(E:z0 H Y):SR K own Y I o:=⟨h.len,λi x e=>(h.sl i x e).same (bU E) E,λi b a c=>let⟨J,e⟩:=h.out i b a c;⟨J,E _ _ e⟩,h.dis⟩
def SR.sole(h:SR K own H I o){b:Addr}(z:Ow own b):adQ H b:=by
 obtain⟨i,z⟩:=z;by_cases a:i<o.length
 .exact(h.sl i _ (aj a)).sole z
 .obtain⟨J,e⟩:=h.out i (Nat.not_lt.mp a) b z;exact⟨_,e,.inl ⟨_,rfl⟩⟩
def adQ.ne(h:adQ H a):H a≠none:=by
 obtain⟨o,e,_⟩:=h;rw[e];exact λz=>by cases z
def NR(K:Frag)(S:Addr->Prop)(H Y:Hp)(v:V)(x:OT):Prop:=∃B,(∀a∈B,H a=none)/\Slo K (hd (λb=>S b\/b∈B) Y) Y (some v) B x
def NR.rep{x:OT}(h:NR K S H Y v x)(c:∀b,S b->H b≠none):Rep K (hd S Y) v (L2.frz x):=by
 obtain⟨B,n,r⟩:=h;exact r.frz (jT (λb z=>.inl (.inl z)) (λ_ _ z=>z)) λa d=>cY λz=>c a z (n a d)
def NR.fz{S:Addr->Prop}{v:V}{t:T}(h:Rep K (hd S Y) v t):NR K S H Y v (.fz t):=⟨[],λ_ z=>(nomatch z),rfl,v,rfl,h.same (jT (λb z=>.inl (z.elim id λy=>(nomatch y))) λ_ _ z=>z)⟩
def NR.l1{S:Addr->Prop}{a:Addr}{J:Ζ}{W:xj}(n:H a=none)(e:Y a=some (.lst J))(h:bV K (hd (λb=>S b\/b=a) Y) J W):NR K S H Y (.ref a) (.l1 W) :=
 ⟨[a],λ_ z=>(YR.mp z) ▸ n,a,J,rfl,rfl,e,h.same (jT (λb z=>.inl (z.imp id YR.mp)) λ_ _ z=>z)⟩
def NR.back{b:Hp}{x:OT}(h:NR K S H Y v x)(E:z0 b H):NR K S b Y v x:=by
 obtain⟨B,n,r⟩:=h;exact⟨B,λa c=>E.free (n a c),r⟩
def own1(own:Nat->Ψ)(i:Nat)(B:Ψ):Nat->Ψ:=λj=>if j=i then B else own j
def lA{B:Ψ} : own1 own i B i=B:=ZY rfl
def gq{j:Nat}{B:Ψ}(h:j≠i):own1 own i B j=own j:=ZZ h
def Ow.of1{B:Ψ}(h:Ow (own1 own i B) b):Ow own b\/b∈B:=by
 obtain⟨j,h⟩:=h;by_cases z:j=i
 .rw[z,lA]at h;exact .inr h
 .rw[gq z]at h;exact .inl ⟨j,h⟩
def SR.put(h:SR K own H I o)(E:z0 H Y){x:OT}(n:NR K (Ow own) H Y v x)(l:i<o.length):∃m,SR K m Y (I.set i (some v)) (o.set i x)/\z0 (hd (Ow own) H) (hd (Ow m) Y):=by
 obtain⟨B,f,r⟩:=n;have le:z0 (hd (Ow own) H) (hd (Ow (own1 own i B)) Y):=jT (λb z=>z.of1.imp id (f b)) E;refine⟨own1 own i B,⟨by rw[VT,VT,h.len],λj y e=>?_,λj g=>?_,λj k a d c=>?_⟩,le⟩
 .by_cases z:j=i
  .subst z;rw[Tx l]at e;cases e;rw[lA,Tx (h.len ▸ l)];exact r.same (jT (λb z=>.inl z.of1) λ_ _ z=>z) λ_ _ z=>z
  .rw[UT (Ne.symm z)]at e;rw[gq z,UT (Ne.symm z)];exact(h.sl j y e).same le E
 .rw[VT]at g;rw[gq wp];intro a p;obtain⟨J,e⟩:=h.out j g a p;exact⟨J,E _ _ e⟩
 .by_cases z:j=i<;>by_cases y:k=i
  .rw[z,y]
  .rw[z,lA]at d;rw[gq y]at c;exact absurd (f a d) (h.sole ⟨k,c⟩).ne
  .rw[y,lA]at c;rw[gq z]at d;exact absurd (f a c) (h.sole ⟨j,d⟩).ne
  .rw[gq z]at d;rw[gq y]at c;exact h.dis j k a d c
def SR.frz(h:SR K own H I o){i:Nat}{x:OT}(e:o[i]?=some x){u:V}(g:I[i]?=some (some u)):∃n,SR K n H I (o.set i (.fz (L2.frz x)))/\z0 (hd (Ow own) H) (hd (Ow n) H):=by
 have p:i<o.length:=(ao.mp e).1;have le:z0 (hd (Ow own) H) (hd (Ow (own1 own i [])) H):=jT (λb z=>.inl (z.of1.elim id λy=>(nomatch y))) λ_ _ z=>z;have l:=h.sl i x e;rw[g]at l;refine⟨own1 own i [],⟨by rw[VT,h.len],λj y f=>?_,λj m=>?_,λj k a d c=>?_⟩,le⟩
 .by_cases z:j=i
  .subst z;rw[Tx p]at f;cases f;rw[lA,g];exact⟨rfl,u,rfl,Slo.frz l le λa q=>cY λz=>by
    obtain⟨k,z⟩:=z;by_cases y:k=j
    .rw[y,lA]at z;cases z
    .rw[gq y]at z;exact y (h.dis k j a z q)⟩
  .rw[UT (Ne.symm z)]at f;rw[gq z];exact(h.sl j y f).same le λ_ _ z=>z
 .rw[VT]at m;rw[gq wp];exact h.out j m
 .by_cases z:j=i
  .rw[z,lA]at d;cases d
  by_cases y:k=i
  .rw[y,lA]at c;cases c
  .rw[gq z]at d;rw[gq y]at c;exact h.dis j k a d c
def SR.chg(h:SR K own H I o){x:OT}(e:o[i]?=some x){y:OT}(E:∀b u,b∉own i->H b=some u->Y b=some u)(r:Slo K (hd (Ow own) Y) Y (I[i]?.join) (own i) y):SR K own Y I (o.set i y)/\z0 (hd (Ow own) H) (hd (Ow own) Y):=by
 have g:i<o.length:=(ao.mp e).1;have le:z0 (hd (Ow own) H) (hd (Ow own) Y):=λb u z=>by
  obtain⟨n,z⟩:=cW z;rw[cY n];exact E b u (λq=>n ⟨i,q⟩) z
 refine⟨⟨by rw[VT,h.len],λj z c=>?_,λj d a f=>?_,h.dis⟩,le⟩
 rotate_left
 .rw[VT]at d;obtain⟨J,l⟩:=h.out j d a f;exact⟨J,E a _ (λz=>by have:=h.dis j i a f z;lia) l⟩
 by_cases q:j=i
 .subst q;rw[Tx g]at c;cases c;exact r
 .rw[UT (Ne.symm q)]at c;exact((h.sl j z c).same le λ_ _ z=>z).off λb k u=>E b u λz=>q (h.dis j i b k z)
def SR.get(h:SR K own H I o){i:Nat}{t:T}(e:o[i]?=some (.fz t)):∃u,I[i]?=some (some u)/\Rep K (hd (Ow own) H) u t:=by
 obtain⟨_,u,q,r⟩:=h.sl i _ e;refine⟨u,?_,r⟩;cases z:I[i]? with
 |none=>rw[z]at q;cases q
 |some w=>rw[z]at q;exact ZH some q
end
end L2
namespace L2
open PySem PySem.Spec PyProof.Rows
abbrev RE:=xy->(OT->Prop)->Prop
abbrev RT:=xy->(Bool->Prop)->Prop
abbrev RA:=xy->(xj->Prop)->Prop
def tQ(K:Frag)(r:RE):TE:=λI H Q=>∃a o R,SR K a H I o/\r o R/\∀Y v x,R x->z0 H Y->NR K (Ow a) H Y v x->Q v Y
def tQT(K:Frag)(r:RT):TT:=λI H Q=>∃a o R,SR K a H I o/\r o R/\∀Y b,R b->z0 H Y->Q b Y
def tQA(K:Frag)(n:Nat)(r:RA):TA:=λI H Q=>∃a o R,SR K a H I o/\r o R/\∀Y b W,R W->W.length=n->z0 H Y->bV K (hd (Ow a) Y) b W->Q b Y
def QE(X:Cx)(e:Expr)(r:RE):Prop:=PE X e (tQ X.K r)
def QT(X:Cx)(e:Expr)(r:RT):Prop:=PT X e (tQT X.K r)
def QW(X:Cx)(e:Expr)(r:RT):Prop:=PW X e (tQT X.K r)
def QA(X:Cx)(a:xw)(r:RA):Prop:=PA X a (tQA X.K a.length r)
variable{X:Cx}{es:xw}{R:OT->Prop}{Q:VK}{b:Bool}{N:Pos}{t:T}{v:V}
def PT.imp{e:Expr}{t b:TT}(h:PT X e t)(i:∀I H Q,b I H Q->t I H Q):PT X e b:=λU s I H Q a q=>h U s I H Q a (i I H Q q)
def PW.imp{e:Expr}{t b:TT}(h:PW X e t)(i:∀I H Q,b I H Q->t I H Q):PW X e b:=λc U s I H Q a q=>h c U s I H Q a (i I H Q q)
def PA.imp{t b:TA}(h:PA X es t)(i:∀I H Q,b I H Q->t I H Q):PA X es b:=λp U s I H Q a q=>h p U s I H Q a (i I H Q q)
section
variable{K:Frag}{own:Nat->Ψ}{H:Hp}{I:L2.St}{o:xy}
def tQ.mk{r:RE}(h:SR K own H I o)(c:r o R)(k:∀Y v x,R x->z0 H Y->Rep K (hd (Ow own) Y) v (frz x)->Q v Y):tQ K r I H Q :=
 ⟨own,o,R,h,c,λY v x a E n=>k Y v x a E (n.rep λb z=>(h.sole z).ne)⟩
def slot:xy->Nat->OT
 |[],_=>.und
 |x::_,0=>x
 |_::l,n+1=>slot l n
theorem iQ:∀{o:xy}{i:Nat}{x:OT},slot o i=x->x≠.und->o[i]?=some x
 |[],_,_,e,n=>absurd e.symm n
 |_::_,0,_,e,_=>ZH some e
 |_::l,i+1,x,e,n=>by simpa using iQ (o:=l) (i:=i) e n
end
def gz(i:Nat):RE:=λo q=>match slot o i with|.fz t=>q (.fz t)|_=>False
def rC(t:T):RE:=λ_ q=>q (.fz t)
abbrev zn:Type:=T->T->(OT->Prop)->Prop
def fF(g:zn)(a b:RE):RE:=λo q=>a o λx=>b o λy=>g (frz x) (frz y) q
def Gc(g:T->(OT->Prop)->Prop)(a:RE):RE:=λo q=>a o λx=>g (frz x) q
def sw(b:Bool)(p q:Prop):Prop:=match b with|true=>p|false=>q
def iq{p q:Prop}(c:b->p)(a:b=false->q):sw b p q:=by
 cases b
 .exact a rfl
 .exact c rfl
def c4{c:Prop}[Decidable c]{p q:Prop}(b:c->p)(a:¬c->q):sw (decide c) p q:=iq (λe=>b (of_decide_eq_true e)) λe=>a (of_decide_eq_false e)
def fe{p q:Prop}(e:b)(h:p):sw b p q:=by subst e;exact h
def dy{p q:Prop}(e:b=false)(h:q):sw b p q:=by subst e;exact h
def qv(i:Nat){x:Str}(f:n_X X i x:=by exact⟨rfl,rfl,wf,wf⟩):QE X (.Name x N) (gz i):=(pv i f).imp λI H Q d=>by
 obtain⟨b,o,R,h,a,k⟩:=d;unfold gz at a;cases e:slot o i with
 |fz t =>
  rw[e]at a;obtain⟨u,q,r⟩:=h.get (iQ e (by intro z;cases z));exact⟨u,q,k H u _ a (.refl _) (NR.fz r)⟩
 |_=>rw[e]at a;exact a.elim
def wn{x:Str}(b:n_X X 0 x:=by exact⟨rfl,rfl,wf,wf⟩):QE X (.Name x N) (gz 0):=qv 0 b
def we{x:Str}(b:n_X X 1 x:=by exact⟨rfl,rfl,wf,wf⟩):QE X (.Name x N) (gz 1):=qv 1 b
def wa{x:Str}(b:n_X X 2 x:=by exact⟨rfl,rfl,wf,wf⟩):QE X (.Name x N) (gz 2):=qv 2 b
def wP{x:Str}(b:n_X X 3 x:=by exact⟨rfl,rfl,wf,wf⟩):QE X (.Name x N) (gz 3):=qv 3 b
def wE{x:Str}(b:n_X X 4 x:=by exact⟨rfl,rfl,wf,wf⟩):QE X (.Name x N) (gz 4):=qv 4 b
def qC{e:Expr}(h:PE X e (tC v))(r:∀F,Rep X.K F v t):QE X e (rC t):=h.imp λI H Q c=>by obtain⟨a,o,R,_,b,k⟩:=c;exact k H v _ b (.refl _) (NR.fz (r _))
def bA{i j N} : QE X (.Constant (.int i) j N) (rC (.int i)):=qC NL λ_=>.int _
def mW{b j N} : QE X (.Constant (.bool b) j N) (rC (.bl b)):=qC L7 λ_=>.bl _
def iB{j N} : QE X (.Constant .none j N) (rC .non):=qC NU λ_=>.non
def xP{x j N} : QE X (.Constant (.str x) j N) (rC (.str x)):=qC RH λ_=>.str _
def Nk{x:Str}(a:∃u,X.mg x=some u/\z4 v u)(r:∀F,Rep X.K F v t)(b:Gl X x:=by rfl)(hd:qV x:=by decide):QE X (.Name x N) (rC t):=qC (_' b a hd) r
variable{b a c:Expr}{ra rb:RE}{g:zn}{op:CmpOp}{S:Addr->Prop}{H Y:Hp}{J:Ζ}{W:xj}{K:Frag}
def GO(X:Cx)(f:Value->Value->Sem Value)(g:zn):Prop:=OpR X f λx y H Q=>∃S t u R,(∀b,S b->H b≠none)/\Rep X.K (hd S H) x t/\Rep X.K (hd S H) y u/\g t u R/\∀Y v z,R z->z0 H Y->NR X.K S H Y v z->Q v Y
theorem q2{g:zn}{I:L2.St}{H:Hp}{Q:VK}(h:tQ X.K (fF g ra rb) I H Q):ip (λx y H Q=>∃S t u R,(∀b,S b->H b≠none)/\Rep X.K (hd S H) x t/\Rep X.K (hd S H) y u/\g t u R/\∀Y v z,R z->z0 H Y->NR X.K S H Y v z->Q v Y) (tQ X.K ra) (tQ X.K rb) I H Q:=by
 obtain⟨d,o,R,h,j,k⟩:=h;exact tQ.mk h j λZ v x q c i=>tQ.mk (h.same c) q λm w y q2 a f=>⟨Ow d,_,_,R,λb z=>((h.same (c.trans a)).sole z).ne,i.same (bU a),f,q2,λY u z e l n=>k Y u z e (c.trans (a.trans l)) (n.back (c.trans a))⟩
def bL{op:Operator}(c:GO X (binaryOp op) g)(e:QE X a ra)(d:QE X b rb):QE X (.BinOp a op b N) (fF g ra rb):=(MC c e d).imp λ_ _ _=>q2
def xK(c:GO X (compareOp op) g)(f:QE X a ra)(e:QE X b rb)(d:behindInMarks op b=false:=by exact EH _):QE X (.Compare a [op] [b] N) (fF g ra rb):=(_N c f e d).imp λ_ _ _=>q2
def gI(g:Int->Int->OT):zn
 |.int i,.int j,q=>q (g i j)
 |_,_,_=>False
def GO.ints{f:Value->Value->Sem Value}{g:Int->Int->V}{t:Int->Int->T}(h:OpR X f (gc g))(r:∀i j F,Rep X.K F (g i j) (t i j)):GO X f (gI λi j=>.fz (t i j)):=h.imp λx y H Q d=>by
 obtain⟨S,t,u,R,_,c,b,a,k⟩:=d;cases c<;>try exact a.elim
 cases b<;>try exact a.elim
 exact⟨_,_,rfl,rfl,k H _ _ a (.refl _) (NR.fz (r _ _ _))⟩
def qw:GO X (binaryOp .Sub) (gI λi j=>.fz (.int (i-j))):=.ints P8 λ_ _ _=>.int _
def Cy:GO X (compareOp .Lt) (gI λi j=>.fz (.bl (decide (i<j)))):=.ints ND λ_ _ _=>.bl _
def CG:GO X (compareOp .LtE) (gI λi j=>.fz (.bl (decide (i<=j)))):=.ints OL λ_ _ _=>.bl _
def IK:GO X (compareOp .Gt) (gI λi j=>.fz (.bl (decide (j<i)))):=.ints Mo λ_ _ _=>.bl _
def CS:GO X (compareOp .GtE) (gI λi j=>.fz (.bl (decide (j<=i)))):=.ints MB λ_ _ _=>.bl _
def CI:zn
 |.int i,.int j,q=>q (.fz (.int (i+j)))
 |.str a,.str b,q=>a.length+b.length<=sizeLine/\q (.fz (.str (a++b)))
 |.lst a,.lst b,q=>a.length+b.length<=sizeLine/\q (.l1 (a++b))
 |_,_,_=>False
def Dm{p:Addr}(r:bV X.K (hd S H) J W)(E:z0 H Y)(n:H p=none)(e:Y p=some (.lst J)):NR X.K S H Y (.ref p) (.l1 W) :=
 NR.l1 n e (r.same (jT (λb z=>z.imp id λ(y:b=p)=>y ▸ n) E))
def dg:GO X (binaryOp .Add) CI:=λU s I H x y v u Q c g f o=>by
 obtain⟨S,t,w,R,_,i,h,d,k⟩:=o;cases t<;>try exact d.elim
 .cases i;cases w<;>try exact d.elim
  cases h;exact RR U s I H _ _ v u Q c g f ⟨_,_,rfl,rfl,k H _ _ d (.refl _) (NR.fz (.int _))⟩
 .cases i;cases w<;>try exact d.elim
  cases h;exact YN U s I H _ _ v u Q c g f ⟨_,_,rfl,rfl,d.1,k H _ _ d.2 (.refl _) (NR.fz (.str _))⟩
 .cases w<;>try exact d.elim
  obtain⟨a,J,rfl,r,l⟩:=i.lstI;obtain⟨b,m,rfl,q,j⟩:=h.lstI;exact Yf U s I H _ _ v u Q c g f ⟨a,b,J,m,rfl,rfl,(cW r).2,(cW q).2,by rw[l.len,j.len];exact d.1,λp Y E n e=>k Y _ _ d.2 E (Dm (l.app j) E n e)⟩
def IG:zn
 |.int i,.int j,q=>(Bd i/\Bd j)/\q (.fz (.int (i*j)))
 |.lst a,.int j,q=>(-(2^63)<=j/\j<2^63/\a.length*j.toNat<=sizeLine)/\∀z,z=(replicate j.toNat a).flatten->q (.l1 z)
 |.str a,.int j,q=>(∃c,a=⟨#[c]⟩/\1<=j/\j<=1000/\∀z:Str,z.cps.toList=replicate j.toNat c->q (.fz (.str z)))
 |_,_,_=>False
def KO:zn
 |.int i,.int j,q=>(j≠0/\Bd j)/\q (.fz (.int (i.fdiv j)))
 |_,_,_=>False
def Ll:zn
 |.int i,.int j,q=>0<j/\q (.fz (.int (i%j)))
 |_,_,_=>False
def HU:zn
 |.int i,.int j,q=>sD i j/\q (.fz (.int (i^j.toNat)))
 |_,_,_=>False
def o7:GO X (binaryOp .FloorDiv) KO:=abT.imp λx y H Q d=>by
 obtain⟨S,t,u,R,_,c,b,a,k⟩:=d;cases c<;>try exact a.elim
 cases b<;>try exact a.elim
 exact⟨_,_,rfl,rfl,a.1,k H _ _ a.2 (.refl _) (NR.fz (.int _))⟩
def cM:GO X (binaryOp .Mod) Ll:=PD.imp λx y H Q d=>by
 obtain⟨S,t,u,R,_,c,b,a,k⟩:=d;cases c<;>try exact a.elim
 cases b<;>try exact a.elim
 exact⟨_,_,rfl,rfl,a.1,k H _ _ a.2 (.refl _) (NR.fz (.int _))⟩
def Xr:GO X (binaryOp .Pow) HU:=N9.imp λx y H Q d=>by
 obtain⟨S,t,u,R,_,c,b,a,k⟩:=d;cases c<;>try exact a.elim
 cases b<;>try exact a.elim
 exact⟨_,_,rfl,rfl,a.1,k H _ _ a.2 (.refl _) (NR.fz (.int _))⟩
def HP:T->(OT->Prop)->Prop
 |.int i,q=>q (.fz (.int (-i)))
 |_,_=>False
def ux(e:QE X a ra):QE X (.UnaryOp .USub a N) (Gc HP ra):=(MZ SV e).imp λI H Q ⟨c,o,R,h,d,k⟩=>tQ.mk h d λZ v x q f b=>by
 revert b q
 generalize frz x=t;intro q b;cases b<;>try exact q.elim
 exact⟨_,rfl,k _ _ _ q f (NR.fz (.int _))⟩
def ZF:T->Option Bool
 |.non=>some true
 |.any=>none
 |.val v=>some (decide (v=.non))
 |_=>some false
def k7(a:Bool):zn:=λt u q=>match u,ZF t with
 |.non,some b=>q (.fz (.bl (xor a b)))
 |_,_=>False
def U7{F:Hp}{x:V}{b:Bool}(h:Rep K F x t)(e:ZF t=some b):decide (x=.non)=b:=by
 cases h<;>cases e<;>first|rfl|(apply Zp;intro z;cases z)
def Ba:GO X (compareOp .Is) (k7 false):=PM.imp λx y H Q f=>by
 obtain⟨S,t,u,R,_,d,c,a,k⟩:=f;cases c<;>try exact a.elim
 unfold k7 at a;cases e:ZF t with
 |none=>rw[e]at a;exact a.elim
 |some b=>rw[e]at a;exact⟨rfl,k H _ _ a (.refl _) (NR.fz (by rw[U7 d e,Bool.false_xor];exact .bl _))⟩
def Rx:GO X (compareOp .IsNot) (k7 true):=Tb.imp λx y H Q f=>by
 obtain⟨S,t,u,R,_,d,c,a,k⟩:=f;cases c<;>try exact a.elim
 unfold k7 at a;cases e:ZF t with
 |none=>rw[e]at a;exact a.elim
 |some b=>rw[e]at a;exact⟨rfl,k H _ _ a (.refl _) (NR.fz (by rw[U7 d e,Bool.true_xor];exact .bl _))⟩
structure mo(H:Hp)(S:Addr->Prop):Prop where
 sole:∀b,S b->adQ H b
 ins:∀a C dx fs,S a->H a=some (.ins C dx fs)->S dx
 own:∀b x,S b->H b=some (.own x)->S x
variable{b f D:Addr}{own:Nat->Ψ}{I:L2.St}{P:Program}{w:World}{mg:Str->Ω}{base:Heap}{k n:Nat}{fd:FuncData}{ps:Φ}{sp:Sp}{r:RA}{p p2 bo af az:Pos}{α:Type}{st:Stmt}{u:HO}{ys:Ζ}{tg:Expr}{qual:Str}
def SR.mate{o:xy}(h:SR K own H I o){j:Nat}(a:b∈own j):(∀C d f,H b=some (.ins C d f)->d∈own j)/\∀x,H b=some (.own x)->x∈own j:=by
 have g:∀{J:Ζ},H b=some (.lst J)->(∀C d f,H b=some (.ins C d f)->d∈own j)/\∀x,H b=some (.own x)->x∈own j:=λq=>⟨(λ_ _ _ e=>by rw[q]at e;cases e),(λ_ e=>by rw[q]at e;cases e)⟩;by_cases m:j<o.length
 .have s:=h.sl j _ (aj m);cases y:o[j]with
  |und=>rw[y]at s;rw[show own j=[]from s]at a;cases a
  |fz t=>rw[y]at s;rw[s.1]at a;cases a
  |l1 W=>rw[y]at s;obtain⟨c,J,_,w,q,_⟩:=s;rw[w]at a;cases YR.mp a;exact g q
  |l2 E =>
   rw[y]at s;obtain⟨c,D,_,u,_,k,l,r⟩:=s;rw[u]at a;rcases YU.mp a with z|z
   .exact g (z ▸ k)
   .obtain⟨i,n⟩:=aV z;obtain⟨J,q2,_⟩:=r i b _ n (aj (l ▸ (ao.mp n).1));exact g q2
  |d1 v W=>rw[y]at s;obtain⟨c,J,_,w,q,_⟩:=s;rw[w]at a;cases YR.mp a;exact⟨(λ_ _ _ e=>by rw[q]at e;cases e),(λ_ e=>by rw[q]at e;cases e)⟩
  |la c W=>rw[y]at s;obtain⟨J,_,w,q,_⟩:=s;rw[w]at a;cases YR.mp a;exact g q
  |pr W B =>
   rw[y]at s;obtain⟨p,c,e,J,ys,_,w,_,_,k,q2,_⟩:=s;rw[w]at a;rcases YU.mp a with z|z
   .exact g (z ▸ k)
   .cases YR.mp z;exact g q2
  |gh A t=>rw[y]at s;rw[s.1]at a;cases a
  |ob c d F v W =>
   rw[y]at s;obtain⟨J,_,w,q,q2,_⟩:=s;rw[w]at a ⊢;rcases YU.mp a with z|z
   .refine⟨λ_ _ _ e=>?_,λ_ e=>?_⟩
    .rw[z,q]at e;cases e;simp
    .rw[z,q]at e;cases e
   .cases YR.mp z;refine⟨λ_ _ _ e=>?_,λ_ e=>?_⟩
    .rw[q2]at e;cases e
    .rw[q2]at e;cases e;simp
 .obtain⟨J,q⟩:=h.out j (Nat.not_lt.mp m) b a;exact g q
def SR.hid{o:xy}(h:SR K own H I o):mo H (Ow own) :=
 ⟨λb z=>h.sole z,λa C d c ⟨j,z⟩ e=>⟨j,(h.mate z).1 C d c e⟩,λb x ⟨j,z⟩ e=>⟨j,(h.mate z).2 x e⟩⟩
def cH(S:Addr->Prop)(H G:Hp):Hp:=λb=>open Classical in if S b then H b else G b
def vZ{G:Hp}(h:S b):cH S H G b=H b:=by unfold cH;rw[ZY h]
def jZ{G:Hp}(h:¬S b):cH S H G b=G b:=by unfold cH;rw[ZZ h]
def gm(sp:Sp):Sp:=λa H Q _=>∃S:Addr->Prop,mo H S/\sp a (hd S H) (λv G=>(∀b,S b->G b=none)->Q v (cH S H G)) λ_ _ _=>False
def bW.hid(F:bW P w K mg base ab k f fd ps sp):bW P w K mg base ab k f fd ps (gm sp):=by
 refine⟨λD H Q E h=>?_,λA j s H O us D Q E hr i Z r h=>?_⟩
 .obtain⟨S,_,z⟩:=h;exact F.len D _ _ _ z
 obtain⟨S,t,z⟩:=h;have l:∀{b:Addr},H b=none->hd S H b=none:=λ{b}e=>by
  by_cases z:S b
  .exact sZ z
  .rw[cY z];exact e
 have R:∀{b:Addr}{u:HO},S b->H b=some u->(∀J,u≠.tup J)/\(∀o v,u≠.frz o v)/\∀ps,u≠.tbl ps:=λ{b u}z e=>by
  obtain⟨o,q,w⟩:=t.sole b z;rw[e]at q;cases q;rcases w with⟨_,rfl⟩|⟨_,rfl⟩|⟨_,_,_,rfl⟩|⟨_,rfl⟩<;>exact⟨λ_ z=>(nomatch z),λ_ _ z=>(nomatch z),λ_ z=>(nomatch z)⟩
 have e1:Lh P w K mg base A j s (hd S H):=⟨i.frames,i.mod,λb o e=>⟨(i.bs b o e).1,l (i.bs b o e).2⟩,i.bsz,i.funs,λb Z=>l (i.frf b Z),λb u e=>by
  obtain⟨nb,T⟩:=cW e;refine(i.hok b u T).stay (λ_ _ _ z=>z) (λd z=>?_) λd J z=>?_
  .rw[cY λy=>nb (t.own d b y z)];exact z
  .rw[cY λy=>(R y z).1 J rfl];exact z,i.bare⟩
 refine codeAny_mono (F.run A j s (hd S H) O us D _ _ hr e1 Z r z) λU s' L=>?_;cases U with
 |error e=>exact L.elim
 |ok fl =>
  cases fl with
  |next=>exact False.elim L
  |brk=>exact False.elim L
  |cont=>exact False.elim L
  |ret u =>
   obtain⟨v,G,os,N,m,Y,rv,q⟩:=L;have p:∀{b:Addr},S b->∃o,s.heap.get? b=some o:=λ{b}y=>by
    obtain⟨u,e,w⟩:=t.sole b y;have x:=i.hok b u e;rcases w with⟨J,rfl⟩|⟨kk,rfl⟩|⟨C,d,f,rfl⟩|⟨y,rfl⟩
    .obtain⟨_,_,_,_,g⟩:=x;exact⟨_,g⟩
    .obtain⟨_,_,_,_,_,_,_,g,_⟩:=x;exact⟨_,g⟩
    .obtain⟨_,_,_,g,_⟩:=x;exact⟨_,g⟩
    .exact x
   have a:∀{b:Addr}{o:Obj},S b->s.heap.get? b=some o->s'.heap.get? b=some o:=λ{b o}y e=>m.keep b o e (sZ y) (λz=>(t.sole b y).ne (i.frf b z)) wr;have aE:∀b,S b->G b=none:=λb y=>by
    obtain⟨o,ho⟩:=p y;exact m.free b o ho (sZ y) wr
   have W:∀{b:Addr}{u:HO},G b=some u->¬S b:=λe z=>by rw[aE _ z]at e;cases e
   have M:∀{b:Addr}{u:HO},G b=some u->cH S H G b=some u:=λe=>(jZ (W e)).trans e;refine⟨v,cH S H G,os,N,⟨λb o e n=>m.keep b o e (l n),λb o e n=>m.slot b o e (l n),λb o e n z=>?_,m.there,λb J e=>?_,λb o u e=>?_,λb ps e=>?_⟩,λb u e=>?_,rv,q aE⟩
   .rw[jZ λy=>(t.sole b y).ne n];exact m.free b o e (l n) z
   .have n:¬S b:=λy=>(R y e).1 J rfl;exact M (m.tups b J ((cY n).trans e))
   .have n:¬S b:=λy=>(R y e).2.1 o u rfl;exact M (m.frzs b o u ((cY n).trans e))
   .have n:¬S b:=λy=>(R y e).2.2 ps rfl;obtain⟨I,this⟩:=m.tbls b ps ((cY n).trans e);exact⟨I,M this⟩
   .by_cases z:S b
    .rw[vZ z]at e;have x:=i.hok b u e;obtain⟨u',T,w⟩:=t.sole b z;rw[e]at T;cases T;rcases w with⟨J,rfl⟩|⟨kk,rfl⟩|⟨C,d,f,rfl⟩|⟨y,rfl⟩
     .obtain⟨B,X,n,r,g⟩:=x;exact⟨B,X,n,r,a z g⟩
     .obtain⟨B,y,D,r,V,es,ep,g,c⟩:=x;exact⟨B,y,D,r,V,es,ep,a z g,c⟩
     .obtain⟨d1,B,ne,g,mA,⟨od,es,ep,e3,c⟩,r⟩:=x;have sd:=t.ins b C d f z e;exact⟨(vZ sd).trans d1,B,ne,a z g,mA,⟨od,es,ep,a sd e3,c⟩,r⟩
     .obtain⟨V,g⟩:=x;exact⟨V,a z g⟩
    .rw[jZ z]at e;exact(Y b u e).stay (λ_ _ _ z=>z) (λd z=>M z) λd J z=>M z
abbrev ST:=xj->(OT->Prop)->Prop
def am(K:Frag)(S:ST):Sp:=λa H Q _=>∃W R,bV K H a W/\S W R/\∀Y v x,R x->z0 H Y->NR K (λ_=>False) H Y v x->Q v Y
abbrev ag(P:Program)(w:World)(K:Frag)(mg:Str->Ω)(base:Heap)(k:Nat)(x:Str)(ps:Φ)(S:ST):Prop:=dL P w K mg base k x ps (am K S)
def n4:RA:=λ_ q=>q []
def DC(a:RE)(r:RA):RA:=λo q=>a o λx=>r o λW=>q (frz x::W)
def bC:QA X [] n4:=zG.imp λI H Q b=>by obtain⟨own,o,R,h,a,k⟩:=b;exact k H [] [] a rfl (.refl _) .nil
def tQA.mk{o:xy}{R:xj->Prop}{Q:Ζ->Hp->Prop}(h:SR K own H I o)(b:r o R)(k:∀Y a W,R W->W.length=n->z0 H Y->bV K (hd (Ow own) Y) a W->Q a Y):tQA K n r I H Q:=⟨own,o,R,h,b,k⟩
def bx{e:Expr}{a:RE}(m:QE X e a)(b:QA X es r)(l:qS X e es:=by rfl):QA X (e::es) (DC a r):=(f9 m b l).imp λI H Q ⟨own,o,R,h,b,k⟩ =>
 tQ.mk h b λZ v x q d i=>tQA.mk (h.same d) q λn f W q2 j c g=>k n (v::f) (frz x::W) q2 (ZH (· + 1) j) (d.trans c) (.cons (i.same (bU c)) g)
def oC(S:ST)(r:RA):RE:=λo q=>r o λW=>S W q
def bI{e:Expr}{x:Str}{S:ST}(G:ag X.prog X.w X.K X.mg X.base k x ps S)(c:QA X (e::es) r)(d:dY k X.A:=by exact dY.mono (by assumption) wf)(D:Gl X x:=by rfl)(M:qV x:=by decide)
 (J:qS X e es:=by rfl)(O:qE X N es:=by rfl):QE X (.Call (.Name x p) (e::es) [] N) (oC S r):=by
 obtain⟨f,fd,F,b,C,y⟩:=G;refine(rK (sp:=gm (am X.K S)) ⟨f,fd,F.hid,b,C,y⟩ d D c M J O).imp λI H Q ⟨own,o,R,h,d,k⟩=>tQA.mk h d λZ T W q _ i m=>?_;have L:=h.same i;refine⟨Ow own,L.hid,W,R,m,q,λG v x l E n g=>?_⟩;have P:z0 Z (cH (Ow own) Z G):=λb u e=>by
  by_cases z:Ow own b
  .rw[vZ z];exact e
  .rw[jZ z];exact E b u ((cY z).trans e)
 have j:z0 G (cH (Ow own) Z G):=λb u e=>by rw[jZ λz=>by rw[g b z]at e;cases e];exact e
 refine k _ v x l (i.trans P) (NR.back (H:=Z) ?_ i);obtain⟨B,t,s⟩:=n;have out:∀a∈B,¬Ow own a:=λa c z=>(s.sole c).ne (g a z);refine⟨B,λa c=>by have:=t a c;rwa[cY (out a c)]at this,s.same (jT (λb z=>?_) j) j⟩;rcases z with z|z
 .exact .inr (g b z)
 .exact .inl (.inr z)
def rB(a:RE):RT:=λo q=>a o λx=>match frz x with|.bl b=>q b|_=>False
def FU:T->(Bool->Prop)->Prop
 |.bl b,q=>q b
 |.int i,q=>q (i != 0)
 |.non,q=>q false
 |.lst W,q=>q (!W.isEmpty)
 |.tup W,q=>q (!W.isEmpty)
 |_,_=>False
def JO(a:RE):RT:=λo q=>a o λx=>FU (frz x) q
def oo(a b:RT):RT:=λo q=>a o λc=>sw c (b o q) (q false)
def my(a b:RT):RT:=λo q=>a o λc=>sw c (q true) (b o q)
def IS(a:RT):RT:=λo q=>a o λc=>q (!c)
def Me(a b:RE):RE:=λo q=>a o λx=>match frz x with|.bl c=>sw c (b o q) (q (.fz (.bl false)))|_=>False
def MI(a:RE):RE:=λo q=>a o λx=>match frz x with|.bl c=>q (.fz (.bl (!c)))|_=>False
def GE(c:RT)(a b:RE):RE:=λo q=>c o λk=>sw k (a o q) (b o q)
def tQT.mk{o:xy}{r:RT}{R:Bool->Prop}{Q:Bool->Hp->Prop}(h:SR K own H I o)(a:r o R)(k:∀Y b,R b->z0 H Y->Q b Y):tQT K r I H Q:=⟨own,o,R,h,a,k⟩
def Rep.isEmpty{K:Frag}{F:Hp}{J:Ζ}{W:xj}(h:bV K F J W):J.isEmpty=W.isEmpty:=by cases h<;>rfl
def Li{c:Bool}{p q b a:Prop}(h:sw c p q)(i:p->b)(j:q->a):if c=true then b else a:=by
 cases c
 .exact KA (j h)
 .exact Lc (i h)
section
variable{X:Cx}{a b c:Expr}{ra rb rc:RE}{qa qb qc:RT}{N:Pos}{rest:xw}
def cj(e:GO X (compareOp op) g)(j:QE X a ra)(i:QE X b rb)(f:behindInMarks op b=false:=by exact EH _):QT X (.Compare a [op] [b] N) (rB (fF g ra rb)) :=
 (S4 e j i f).imp λI H Q ⟨own,o,R,h,d,k⟩=>q2 (ra:=ra) (rb:=rb) (tQ.mk h d λZ v x q l c=>by
  revert c q
  generalize frz x=t;intro q c;cases c<;>try exact q.elim
  exact⟨_,rfl,k _ _ q l⟩)
def cN(i:QE X a ra)(g:∀d,isTrue a X.env d=(do let v <- d;standAt a.pos;holding [v] (truthy v)):=by exact λ_=>rfl):QT X a (JO ra):=(acj i g).imp λI H Q ⟨own,o,R,h,f,k⟩=>tQ.mk h f λZ v x q c b=>by
 revert b q
 generalize frz x=t;intro q b;cases t<;>try exact q.elim
 .cases b;exact⟨false,rfl,k _ _ q c⟩
 .cases b;exact⟨_,rfl,k _ _ q c⟩
 .cases b;exact⟨_,rfl,k _ _ q c⟩
 .obtain⟨p,J,rfl,e,r⟩:=b.tupI;exact⟨_,.inr (.inl ⟨J,dW.tup e,rfl⟩),by rw[Rep.isEmpty r];exact k _ _ q c⟩
 .obtain⟨p,J,rfl,e,r⟩:=b.lstI;exact⟨_,.inl ⟨J,.of (cW e).2,rfl⟩,by rw[Rep.isEmpty r];exact k _ _ q c⟩
def cX(d:QT X a qa):QT X (.UnaryOp .Not a N) (IS qa):=(NO d).imp λI H Q e=>by obtain⟨own,o,R,h,c,k⟩:=e;exact tQT.mk h c λZ b q f=>k Z _ q f
def RB(b:QT X a qa):QW X (.BoolOp .And [a] N) qa:=pw_and1 b
def eX(b:QT X a qa):QW X (.BoolOp .Or [a] N) qa:=pw_or1 b
def Tw(i:QT X a qa)(g:QW X (.BoolOp .And (b::rest) N) qb):QW X (.BoolOp .And (a::b::rest) N) (oo qa qb):=(pw_and i g).imp λI H Q j=>by obtain⟨own,o,R,h,f,k⟩:=j;exact tQT.mk h f λZ c q e=>Li q (λq=>tQT.mk (h.same e) q λl d q m=>k l d q (e.trans m)) λq=>k Z _ q e
def g8(i:QT X a qa)(g:QW X (.BoolOp .Or (b::rest) N) qb):QW X (.BoolOp .Or (a::b::rest) N) (my qa qb):=(pw_or i g).imp λI H Q j=>by obtain⟨own,o,R,h,f,k⟩:=j;exact tQT.mk h f λZ c q e=>Li q (λq=>k Z _ q e) λq=>tQT.mk (h.same e) q λl d q m=>k l d q (e.trans m)
def QW.qt(h:QW X a qa):QT X a qa:=PW.pt h
def M6{op}(h:QE X a ra):QE X (.BoolOp op [a] N) ra:=OX h
def LR(g:QE X a ra)(f:QE X (.BoolOp .And (b::rest) N) rb):QE X (.BoolOp .And (a::b::rest) N) (Me ra rb):=(PY g f).imp λI H Q ⟨own,o,R,h,e,k⟩=>tQ.mk h e λZ v x q c d=>by
 revert d q
 generalize frz x=t;intro q d;cases d<;>try exact q.elim
 exact⟨_,rfl,Li q (λq=>⟨own,o,R,h.same c,q,λi v x q j n=>k i v x q (c.trans j) (n.back c)⟩) λq=>k Z _ _ q c (NR.fz (.bl _))⟩
def Ks(d:QE X a ra):QE X (.UnaryOp .Not a N) (MI ra):=(OV d).imp λI H Q ⟨own,o,R,h,c,k⟩=>tQ.mk h c λZ v x q e b=>by
 revert b q
 generalize frz x=t;intro q b;cases b<;>try exact q.elim
 exact⟨_,rfl,k Z _ _ q e (NR.fz (.bl _))⟩
def Ql{c:Expr}(i:QT X c qc)(l:QE X a ra)(j:QE X b rb):QE X (.IfExp c a b N) (GE qc ra rb):=(_9 i l j).imp λI H Q ⟨own,o,R,h,g,k⟩=>tQT.mk h g λZ c q d =>
 Li q (λq=>⟨own,o,R,h.same d,q,λe v x q f n=>k e v x q (d.trans f) (n.back d)⟩) λq=>⟨own,o,R,h.same d,q,λe v x q f n=>k e v x q (d.trans f) (n.back d)⟩
def mz(g d:zn)(a b c:RE):RE:=λo q=>a o λx=>b o λy=>g (frz x) (frz y) λz=>match frz z with|.bl k=>sw k (c o λw=>d (frz y) (frz w) q) (q (.fz (.bl false)))|_=>False
def q3{C:CmpOp}{l:zn}(G:GO X (compareOp op) g)(J:GO X (compareOp C) l)(h:tQ X.K (mz g l ra rb rc) I H Q):Yk (λx y H Q=>∃S t u R,(∀b,S b->H b≠none)/\Rep X.K (hd S H) x t/\Rep X.K (hd S H) y u/\g t u R/\∀Y v z,R z->z0 H Y->NR X.K S H Y v z->Q v Y) (λx y H Q=>∃S t u R,(∀b,S b->H b≠none)/\Rep X.K (hd S H) x t/\Rep X.K (hd S H) y u/\l t u R/\∀Y v z,R z->z0 H Y->NR X.K S H Y v z->Q v Y) (tQ X.K ra) (tQ X.K rb) (tQ X.K rc) I H Q:=by
 obtain⟨own,o,R,h,B,k⟩:=h;refine tQ.mk h B λZ v x q e s=>tQ.mk (h.same e) q λM w y q2 d m=>?_;have j:=h.same (e.trans d);refine⟨Ow own,_,_,_,λb z=>(j.sole z).ne,s.same (bU d),m,q2,λD u z a c n=>?_⟩;have i:=n.rep λb z=>(j.sole z).ne
 revert i a
 generalize frz z=t;intro a i;cases i<;>try exact a.elim
 have p:=j.same c;refine⟨_,rfl,Li a (λq=>tQ.mk p q λL F z A f r=>⟨Ow own,_,_,R,λb z=>((p.same f).sole z).ne,m.same (bU (c.trans f)),r,A,λY u z a E n=>k Y u z a (e.trans (d.trans (c.trans (f.trans E)))) (n.back (e.trans (d.trans (c.trans f))))⟩) λq=>k D _ _ q (e.trans (d.trans c)) (NR.fz (.bl _))⟩
def VR{d:CmpOp}{f:zn}(e:GO X (compareOp op) g)(h:GO X (compareOp d) f)(l:QE X a ra)(k:QE X b rb)(j:QE X c rc)(i:lastMarks [op,d] [b,c]=false:=by with_unfolding_all rfl):QE X (.Compare a [op,d] [b,c] N) (mz g f ra rb rc):=(acv e h l k j i).imp λ_ _ _=>q3 e h
def FW{e:CmpOp}{i:zn}(f:GO X (compareOp op) g)(j:GO X (compareOp e) i)(p:QE X a ra)(n:QE X b rb)(hc:QE X c rc)(m:lastMarks [op,e] [b,c]=false:=by with_unfolding_all rfl):QT X (.Compare a [op,e] [b,c] N) (rB (mz g i ra rb rc)) :=
 (adU f j p n hc m).imp λI H Q ⟨own,o,R,h,l,k⟩=>q3 (ra:=ra) (rb:=rb) (rc:=rc) f j (tQ.mk h l λZ v x q r d=>by
  revert d q
  generalize frz x=t;intro q d;cases d<;>try exact q.elim
  exact⟨_,rfl,k _ _ q r⟩)
end
def dj{α:Type} : List α->Nat->Option α
 |[],_=>none
 |x::_,0=>some x
 |_::l,n+1=>dj l n
theorem qz{α:Type} : ∀(l:List α)(n:Nat),dj l n=l[n]?
 |[],_=>rfl
 |_::_,0=>rfl
 |_::l,n+1=>by simpa[dj]using qz l n
def ca(W:List α):Int->Option α
 |.ofNat n=>dj W n
 |.negSucc n=>dj W.reverse n
def XF(W:List α)(i:Int):ca W i=dq W i:=by
 unfold ca dq c6;cases i with
 |ofNat n =>
  show dj W n=_;rw[qz,ZY (show 0<=Int.ofNat n from WZ n)];by_cases h:n<W.length
  .rw[ZY (by show(n:Int)<_;lia)];rfl
  .rw[ZZ (by show ¬(n:Int)<_;lia),aM (Nat.not_lt.mp h)];rfl
 |negSucc n =>
  show dj W.reverse n=_;rw[qz,ZZ wp];by_cases h:n<W.length
  .rw[ZY wp,List.getElem?_reverse h];show _=W[_]?;rw[show(Int.negSucc n+(W.length:Int)).toNat=W.length-1-n by lia]
  .rw[ZZ wp,aM (by rw[List.length_reverse];exact VS h)];rfl
def bV.ix{F:Hp}{i:Int}(h:bV K F J W)(e:ca W i=some t):∃x,dq J i=some x/\Rep K F x t:=by
 rw[XF]at e;unfold dq at e ⊢;rw[h.len];cases j:c6 W.length i with
 |none=>rw[j]at e;cases e
 |some n=>rw[j]at e;exact h.at_ e
def oT(x:Option α)(q:α->Prop):Prop:=match x with|some t=>q t|none=>False
def C6{x:Option α}{q:α->Prop}(h:oT x q):∃t,x=some t/\q t:=by
 cases x with
 |none=>exact h.elim
 |some t=>exact⟨t,rfl,h⟩
def ng:zn
 |.tup W,.int i,q=>oT (ca W i) λt=>q (.fz t)
 |.lst W,.int i,q=>∃t,ca W i=some t/\q (.fz t)
 |.scr W,.int i,q=>∃t,ca W i=some t/\q (.fz t)
 |.str s,.int i,q=>s.length<=sizeLine/\∃c,ca s.cps.toList i=some c/\q (.fz (.str ⟨#[c]⟩))
 |_,_,_=>False
section
variable{X:Cx}{a b c e:Expr}{ra rb rc re:RE}{qa qb qc:RT}{N p2:Pos}{lo hi:Option Expr}
def G0:IxR X (λx y H Q=>∃S t u R,(∀b,S b->H b≠none)/\Rep X.K (hd S H) x t/\Rep X.K (hd S H) y u/\ng t u R/\∀Y v z,R z->z0 H Y->NR X.K S H Y v z->Q v Y):=by
 refine(Bf.or (OC.or N1)).imp λx y H Q h=>?_;obtain⟨S,t,u,R,_,g,l,a,k⟩:=h;cases u with
 |int i=>?_
 |_=>cases t<;>exact a.elim
 cases l;cases t with
 |any=>exact a.elim
 |non=>exact a.elim
 |bl _=>exact a.elim
 |int _=>exact a.elim
 |val _=>exact a.elim
 |dct _ _=>exact a.elim
 |ins _ _ _=>exact a.elim
 |exc _ _ _=>exact a.elim
 |str s=>?_
 |tup W=>?_
 |lst W=>?_
 |scr W=>?_
 .cases g;obtain⟨z,c,e,q⟩:=a;rw[XF]at e;exact .inr (.inr ⟨_,_,c,rfl,rfl,z,e,k H _ _ q (.refl _) (NR.fz (.str _))⟩)
 .obtain⟨p,J,rfl,e,r⟩:=g.tupI;obtain⟨t,j,q⟩:=C6 a;obtain⟨v,f,d⟩:=r.ix j;exact .inr (.inl ⟨p,J,i,v,rfl,rfl,dW.tup e,f,k H _ _ q (.refl _) (NR.fz d)⟩)
 .obtain⟨p,J,rfl,e,r⟩:=g.lstI;obtain⟨t,j,q⟩:=a;obtain⟨v,f,d⟩:=r.ix j;exact .inl ⟨p,J,_,v,rfl,rfl,.of (cW e).2,f,k H _ _ q (.refl _) (NR.fz d)⟩
 .obtain⟨p,J,rfl,e,r⟩:=g.scrI;obtain⟨t,j,q⟩:=a;obtain⟨v,f,d⟩:=r.ix j;exact .inl ⟨p,J,_,v,rfl,rfl,dW.seq e,f,k H _ _ q (.refl _) (NR.fz d)⟩
def bJ(e:QE X a ra)(d:QE X b rb)(c:vD b:=by exact λ_ _=>rfl):QE X (.Subscript a b N) (fF ng ra rb):=(Pz G0 e d c).imp λ_ _ _=>q2
abbrev RO:=xy->(xo->Prop)->Prop
def F1(K:Frag)(r:RO):TO:=λI H Q=>∃own o R,SR K own H I o/\r o R/\∀Y b,R b->z0 H Y->Q b Y
def QO(X:Cx)(e:Option Expr)(r:RO):Prop:=PO X e (F1 X.K r)
def LW:RO:=λ_ q=>q none
def L0(a:RE):RO:=λo q=>a o λx=>match frz x with|.int i=>q (some i)|_=>False
def PO.imp{X:Cx}{e:Option Expr}{t b:TO}(h:PO X e t)(i:∀I H Q,b I H Q->t I H Q):PO X e b:=λU s I H Q a q=>h U s I H Q a (i I H Q q)
def Tg:QO X none LW:=UD.imp λI H Q b=>by obtain⟨own,o,R,h,a,k⟩:=b;exact k H _ a (.refl _)
def j4(h:QE X e re):QO X (some e) (L0 re):=(_j h).imp λI H Q ⟨own,o,R,h,b,k⟩=>tQ.mk h b λZ v x q c a=>by
 revert a q
 generalize frz x=t;intro q a;cases a<;>try exact q.elim
 exact⟨_,rfl,k _ _ q c⟩
def j7(J:List α)(lo hi:xo):List α:=(J.drop (HT.sIx J.length 0 lo)).take (HT.sIx J.length J.length hi-HT.sIx J.length 0 lo)
def bV.cut{F:Hp}(h:bV K F J W)(lo hi:xo):bV K F (ib J lo hi) (j7 W lo hi):=by
 unfold ib j7;rw[h.len];exact(h.drop _).take _
def G1:T->xo->xo->(OT->Prop)->Prop
 |.lst W,lo,hi,q=>q (.l1 (j7 W lo hi))
 |.scr W,lo,hi,q=>q (.l1 (j7 W lo hi))
 |.str s,lo,hi,q=>s.length<=sizeLine/\q (.fz (.str (Jk s lo hi)))
 |_,_,_,_=>False
def Go(a:RE)(lo hi:RO):RE:=λo q=>a o λx=>lo o λl=>hi o λu=>G1 (frz x) l u q
def pO{g i:RO}(w:QE X e re)(s:QO X lo g)(m:QO X hi i):QE X (.Subscript e (.Slice lo hi none p2) N) (Go re g i):=(_7 (UO.or P5) w s m).imp λI H Q ⟨own,o,R,h,n,k⟩ =>
 tQ.mk h n λZ v x q f b=>⟨own,o,_,h.same f,q,λz l q d=>⟨own,o,_,(h.same f).same d,q,λy u q j=>by
  have E:=f.trans (d.trans j);have b:=b.same (bU (d.trans j))
  revert b q
  generalize frz x=t;intro q b;cases t<;>try exact q.elim
  .cases b;exact .inr ⟨_,rfl,q.1,k _ _ _ q.2 E (NR.fz (.str _))⟩
  .obtain⟨p,J,rfl,e,r⟩:=b.lstI;exact .inl ⟨p,J,rfl,.of (cW e).2,λa c=>k _ _ _ q (E.trans (z0.upd c)) ((Dm (r.cut l u) (z0.upd c) c cF).back E)⟩
  .obtain⟨p,J,rfl,e,r⟩:=b.scrI;exact .inl ⟨p,J,rfl,dW.seq e,λa c=>k _ _ _ q (E.trans (z0.upd c)) ((Dm (r.cut l u) (z0.upd c) c cF).back E)⟩⟩⟩
end
section
variable{X:Cx}{e:Expr}{es:xw}{r:RA}{N:Pos}
def u1(r:RA):RE:=λo q=>r o λW=>q (.fz (.tup W))
def uj(r:RA):RE:=λo q=>r o λW=>q (.l1 W)
def dB(h:QA X es r)(e:es.length<=sizeLine:=by decide):QE X (.Tuple es k N) (u1 r):=(PR h).imp λI H Q ⟨own,o,R,h,f,k⟩=>tQA.mk h f λZ g W q d c b =>
 ⟨by rw[b.len,d];exact e,λp a=>k _ _ _ q (c.trans (z0.upd a)) (NR.fz (.tup (.of (by rw[cY λz=>(h.sole z).ne (c.free a)];exact cF)) (b.same (bU (z0.upd a)))))⟩
def eG(h:QA X es r)(e:es.length<=sizeLine:=by decide):QE X (.List es N) (uj r):=(Pp h).imp λI H Q ⟨own,o,R,h,f,k⟩=>tQA.mk h f λZ g W q d c b =>
 ⟨by rw[b.len,d];exact e,λp a=>k _ _ _ q (c.trans (z0.upd a)) ((Dm b (z0.upd a) a cF).back c)⟩
def GC(X:Cx)(f:Value)(g:ST):Prop:=kW X f λJ H Q=>∃S W R,(∀b,S b->H b≠none)/\bV X.K (hd S H) J W/\g W R/\∀Y v z,R z->z0 H Y->NR X.K S H Y v z->Q v Y
variable{x:Str}{p:Pos}{id Ty:String}{g:ST}
def bY(t:GC X (.builtin id) g)(l:X.mg x=none)(f:bootBuiltins x=some (.builtin id))(u:QA X (e::es) r)(m:Gl X x:=by rfl)(j:x≠"__name__":=by decide)(y:qV x:=by decide)
 (s:qS X e es:=by rfl)(A:qE X N es:=by rfl):QE X (.Call (.Name x p) (e::es) [] N) (oC g r) :=
 (V4 t m l f u j y s A).imp λI H Q w=>by obtain⟨own,o,R,h,i,k⟩:=w;exact tQA.mk h i λZ B W q _ a d=>⟨Ow own,W,R,λb z=>((h.same a).sole z).ne,d,q,λY v z c E n=>k Y v z c (a.trans E) (n.back a)⟩
def oX(t:GC X (.type Ty) g)(l:X.mg x=none)(f:bootBuiltins x=some (.type Ty))(u:QA X (e::es) r)(m:Gl X x:=by rfl)(j:x≠"__name__":=by decide)(y:qV x:=by decide)
 (s:qS X e es:=by rfl)(A:qE X N es:=by rfl):QE X (.Call (.Name x p) (e::es) [] N) (oC g r) :=
 (abD t m l f u j y s A).imp λI H Q w=>by obtain⟨own,o,R,h,i,k⟩:=w;exact tQA.mk h i λZ B W q _ a d=>⟨Ow own,W,R,λb z=>((h.same a).sole z).ne,d,q,λY v z c E n=>k Y v z c (a.trans E) (n.back a)⟩
def bV.one{F:Hp}(h:bV K F J [t]):∃x,J=[x]/\Rep K F x t:=by
 cases h with
 |cons a b=>cases b;exact⟨_,rfl,a⟩
def bV.two{F:Hp}{u:T}(h:bV K F J [t,u]):∃x y,J=[x,y]/\Rep K F x t/\Rep K F y u:=by
 cases h with
 |cons a b =>
  obtain⟨y,rfl,c⟩:=b.one;exact⟨_,y,rfl,a,c⟩
def g1(g:T->(OT->Prop)->Prop):ST:=λW q=>match W with|[t]=>g t q|_=>False
def GC.one{f:Value}{g:T->(OT->Prop)->Prop}{r:Ζ->Hp->VK->Prop}(h:kW X f r)(i:∀S t x H Q R,Rep X.K (hd S H) x t->g t R->(∀Y v z,R z->z0 H Y->NR X.K S H Y v z->Q v Y)->r [x] H Q):GC X f (g1 g):=h.imp λJ H Q d=>by
 obtain⟨S,W,R,_,c,a,k⟩:=d
 match W,a with
 |[t],a =>
  obtain⟨x,rfl,b⟩:=c.one;exact i S t x H Q R b a k
def Kt:T->(OT->Prop)->Prop
 |.lst W,q=>q (.fz (.int W.length))
 |.tup W,q=>q (.fz (.int W.length))
 |.scr W,q=>q (.fz (.int W.length))
 |_,_=>False
def eF:GC X (.builtin "len") (g1 Kt):=.one QJ λS t x H Q R b a k=>by
 cases t<;>try exact a.elim
 .obtain⟨p,J,rfl,e,r⟩:=b.tupI;exact⟨p,J,rfl,.inr (dW.tup e),k H _ _ a (.refl _) (NR.fz (by rw[r.len];exact .int _))⟩
 .obtain⟨p,J,rfl,e,r⟩:=b.lstI;exact⟨p,J,rfl,.inl (.of (cW e).2),k H _ _ a (.refl _) (NR.fz (by rw[r.len];exact .int _))⟩
 .obtain⟨p,J,rfl,e,r⟩:=b.scrI;exact⟨p,J,rfl,.inl (dW.seq e),k H _ _ a (.refl _) (NR.fz (by rw[r.len];exact .int _))⟩
def Ic:T->(OT->Prop)->Prop
 |.str s,q=>s.length<=sizeLine/\q (.fz (.int s.length))
 |_,_=>False
def LM:T->(OT->Prop)->Prop
 |.dct a _,q=>q (.fz (.int a.length))
 |_,_=>False
def abp:kW X (.builtin "len") (λJ H Q=>∃p b,J=[.ref p]/\Rd H p (.dK b)/\Q (.int b.length) H):=by
 intro U s I H J k Q a r h;obtain⟨p,b,rfl,c,q⟩:=h;obtain⟨u,rfl,f⟩:=vals1 r;cases f;have e:b.length<=sizeLine/\(p==sysModules)=false/\∃d,KV b d/\s.heap.DictOf (j_ X.prog X.w) p d:=by
  rcases c with c|⟨o,c⟩
  .exact a.hok p _ c
  .exact(a.hok p _ c).2
 obtain⟨l,i,d,g,m⟩:=e;have n:=zU;have j:b.length=d.length:=g.length;exact call_len_dict i m wp ⟨.int b.length,H,a.tok _,⟨_,by rw[j]⟩,q⟩
def Zh:GC X (.builtin "len") (g1 LM):=.one abp λS t x H Q R b a k=>by
 cases t<;>try exact a.elim
 obtain⟨p,J,rfl,e,l,r⟩:=b.dctI;exact⟨p,_,rfl,dW.rd e,k H _ _ a (.refl _) (NR.fz (by rw[VZ,l,UV];exact .int _))⟩
def K1:T->(OT->Prop)->Prop
 |.int i,q=>q (.fz (.int i.natAbs))
 |_,_=>False
def MF:GC X (.builtin "abs") (g1 K1):=.one __ λS t x H Q R b a k=>by
 cases t<;>try exact a.elim
 cases b;exact⟨_,rfl,k H _ _ a (.refl _) (NR.fz (by rw[Pm];exact .int _))⟩
theorem bV.ints{K:Frag}{F:Hp} : ∀{J:Ζ}{c:xm},bV K F J (c.map T.int)->J=c.map V.int
 |_,[],.nil=>rfl
 |_,n::c,.cons a b=>by cases a;rw[bV.ints b];rfl
theorem bV.bls{K:Frag}{F:Hp} : ∀{J:Ζ}{c:wx},bV K F J (c.map T.bl)->J=c.map V.bl
 |_,[],.nil=>rfl
 |_,n::c,.cons a b=>by cases a;rw[bV.bls b];rfl
theorem Hr{K:Frag}{F:Hp} : ∀(a:xm),bV K F (a.map V.int) (a.map T.int)
 |[]=>.nil
 |_::a=>.cons (.int _) (Hr a)
def IT:T->(OT->Prop)->Prop
 |.lst W,q=>∃a:xm,W=a.map T.int/\q (.fz (.int a.sum))
 |_,_=>False
def XM(hc:X.calm):GC X (.builtin "sum") (g1 IT):=.one (aa3 hc) λS t x H Q R b a k=>by
 cases t<;>try exact a.elim
 obtain⟨p,J,rfl,e,r⟩:=b.lstI;obtain⟨c,rfl,q⟩:=a;exact⟨p,c,rfl,(r.ints ▸ (cW e).2),k H _ _ q (.refl _) (NR.fz (.int _))⟩
def uu(f:wx->Bool):T->(OT->Prop)->Prop
 |.lst W,q=>∃a:wx,W=a.map T.bl/\q (.fz (.bl (f a)))
 |_,_=>False
def W8(hc:X.calm):GC X (.builtin "all") (g1 (uu λf=>f.all λb=>b)):=.one (abe hc) λS t x H Q R c a k=>by
 cases t<;>try exact a.elim
 obtain⟨p,J,rfl,e,r⟩:=c.lstI;obtain⟨d,rfl,q⟩:=a;exact⟨p,d,rfl,(r.bls ▸ (cW e).2),k H _ _ q (.refl _) (NR.fz (.bl _))⟩
def Pw(hc:X.calm):GC X (.builtin "any") (g1 (uu λf=>f.any λb=>b)):=.one (abA hc) λS t x H Q R c a k=>by
 cases t<;>try exact a.elim
 obtain⟨p,J,rfl,e,r⟩:=c.lstI;obtain⟨d,rfl,q⟩:=a;exact⟨p,d,rfl,(r.bls ▸ (cW e).2),k H _ _ q (.refl _) (NR.fz (.bl _))⟩
def HH:T->(OT->Prop)->Prop
 |.lst W,q=>∃a:xm,W=a.map T.int/\a.length<64/\∀b:xm,b.Perm a->b.Pairwise (· <= ·)->q (.l1 (b.map T.int))
 |_,_=>False
def aaF:GC X (.builtin "sorted") (g1 HH):=.one abm λS t x H Q R f d k=>by
 cases t<;>try exact d.elim
 obtain⟨p,J,rfl,e,r⟩:=f.lstI;obtain⟨g,rfl,l,q⟩:=d;exact⟨p,g,rfl,(r.ints ▸ (cW e).2),l,λc a b i h=>k _ _ _ (q c i h) (z0.upd b) (Dm (Hr c) (z0.upd b) b cF)⟩
def Mb:T->(OT->Prop)->Prop
 |.lst W,q=>q (.l1 W)
 |_,_=>False
def R9:GC X (.type "list") (g1 Mb):=.one Yd λS t x H Q R d c k=>by
 cases t<;>try exact c.elim
 obtain⟨p,J,rfl,e,r⟩:=d.lstI;exact⟨p,J,rfl,(cW e).2,λa b=>k _ _ _ c (z0.upd b) (Dm r (z0.upd b) b cF)⟩
def Kn:T->(OT->Prop)->Prop
 |.int i,q=>q (.fz (.int i))
 |.bl b,q=>q (.fz (.int (if b then 1 else 0)))
 |_,_=>False
def Ry:GC X (.type "int") (g1 Kn):=.one abh λS t x H Q R b a k=>by
 cases t<;>try exact a.elim
 .cases b;exact .inr ⟨_,rfl,k H _ _ a (.refl _) (NR.fz (.int _))⟩
 .cases b;exact .inl ⟨_,rfl,k H _ _ a (.refl _) (NR.fz (.int _))⟩
inductive Knd where
 |int|bool|str|list|tuple
def Knd.s:Knd->String
 |.int=>"int"
 |.bool=>"bool"
 |.str=>"str"
 |.list=>"list"
 |.tuple=>"tuple"
def r3:Knd->T->Option Bool
 |.int,.int _=>some true
 |.int,.bl _=>some true
 |.bool,.bl _=>some true
 |.str,.str _=>some true
 |.list,.lst _=>some true
 |.tuple,.tup _=>some true
 |_,.any=>none
 |_,.val _=>none
 |_,.scr _=>none
 |_,.ins _ _ _=>none
 |_,.exc _ _ _=>none
 |_,.dct _ _=>none
 |_,_=>some false
def So(d:Knd):GC X (.builtin "isinstance") (λW q=>match W with|[t,.val v]=>v=.ty d.s/\oT (r3 d t) λb=>q (.fz (.bl b))|_=>False):=by
 intro U s I H J g Q a m h;obtain⟨S,W,R,_,w,o,k⟩:=h
 match W,o with
 |[t,.val v],o =>
  obtain⟨x,y,rfl,l,u⟩:=w.two;cases u;obtain⟨rfl,o⟩:=o;obtain⟨b,j,q⟩:=C6 o;have n:d.s∈["bool","int","str","list","tuple","dict"]:=by cases d<;>decide
  cases t with
  |tup W =>
   obtain⟨p,ys,rfl,e,r⟩:=l.tupI;have f:b=QM "tuple" d.s:=by cases d<;>cases j<;>decide
   exact WY U s I H _ g Q a m ⟨p,d.s,ys,rfl,n,dW.tup e,k H _ _ q (.refl _) (NR.fz (f ▸ .bl _))⟩
  |lst W =>
   obtain⟨p,ys,rfl,e,r⟩:=l.lstI;have f:b=QM "list" d.s:=by cases d<;>cases j<;>decide
   exact z9 U s I H _ g Q a m ⟨_,d.s,"list",rfl,n,by show(match H p with|some (.lst _)=>some "list" |some (.tup _)=>some "tuple" |some (.dK _)=>some "dict" |_=>none)=_;rw[(cW e).2],k H _ _ q (.refl _) (NR.fz (f ▸ .bl _))⟩
  |non =>
   cases l;have f:b=QM "NoneType" d.s:=by cases d<;>cases j<;>decide
   exact z9 U s I H _ g Q a m ⟨_,d.s,"NoneType",rfl,n,rfl,k H _ _ q (.refl _) (NR.fz (f ▸ .bl _))⟩
  |bl c =>
   cases l;have f:b=QM "bool" d.s:=by cases d<;>cases j<;>decide
   exact z9 U s I H _ g Q a m ⟨_,d.s,"bool",rfl,n,rfl,k H _ _ q (.refl _) (NR.fz (f ▸ .bl _))⟩
  |int i =>
   cases l;have f:b=QM "int" d.s:=by cases d<;>cases j<;>decide
   exact z9 U s I H _ g Q a m ⟨_,d.s,"int",rfl,n,rfl,k H _ _ q (.refl _) (NR.fz (f ▸ .bl _))⟩
  |str c =>
   cases l;have f:b=QM "str" d.s:=by cases d<;>cases j<;>decide
   exact z9 U s I H _ g Q a m ⟨_,d.s,"str",rfl,n,rfl,k H _ _ q (.refl _) (NR.fz (f ▸ .bl _))⟩
  |_=>cases d<;>cases j
def KT(c:Knd)(a:RE):RE:=λo q=>a o λx=>oT (r3 c (frz x)) λb=>q (.fz (.bl b))
def vJ(c:Knd){y:Str}(A:QE X a ra)(u:X.mg "isinstance"=none)(m:X.mg y=none)(l:bootBuiltins y=some (.type c.s))(d:Gl X y:=by rfl)(w:Gl X "isinstance":=by rfl)(r:y≠"__name__":=by decide)(j:qV y:=by decide)
 (f:starEach (a::[.Name y p2]) X.env=(false,eval a X.env)::starEach [.Name y p2] X.env:=by rfl):QE X (.Call (.Name "isinstance" p) [a,.Name y p2] [] N) (KT c ra) :=
 (V4 (So c) w u boot_isinstance (f9 A (f9 (_K (v:=.ty c.s) d m l rfl r j) zG) f) wf wf f).imp λI H Q ⟨own,o,R,h,t,k⟩=>tQ.mk h t λZ v x q e i =>
  ⟨Ow own,[frz x,.val (.ty c.s)],R,λb z=>((h.same e).sole z).ne,.cons i (.cons (.val _) .nil),⟨rfl,q⟩,λY v z g E n=>k Y v z g (e.trans E) (n.back e)⟩
end
structure DT where
 nx:xy->Prop
 rt:OT->Prop
 bk:xy->Prop:=λ_=>False
 ct:xy->Prop:=λ_=>False
 xc:Addr->Φ->xj->Prop:=λ_ _ _=>False
abbrev RS:=DT->xy->Prop
def zx(X:Cx):XK:=λC d Y=>(∀U I H s a b B,Inv X U I H s->Fly X.prog X.w X.stack H s a C Y b B d->X.xe (.ref a) b) /\
 ∀U I H s a c,C=.ref c->Inv X U I H s->H a=some (XN a c d)->X.s₀.zs<=a->out H a=Y->X.xe (.ref a) s
structure Lnk(K:Frag)(Z:XK)(F:Hp)(E:DT)(D:Ends):Prop where
 nx:∀own H I o,E.nx o->z0 F (hd (Ow own) H)->SR K own H I o->D.nx I H
 rt:∀S H v x B,E.rt x->z0 F (hd S H)->Slo K (hd S H) H (some v) B x->(∀a∈B,S a)->D.rt v H
 bk:∀own H I o,E.bk o->z0 F (hd (Ow own) H)->SR K own H I o->D.bk I H
 ct:∀own H I o,E.ct o->z0 F (hd (Ow own) H)->SR K own H I o->D.ct I H
 xc:∀H C d ks vs W,E.xc C ks W->z0 F H->H d=some (.xd (ks.zip vs))->bV K H vs W->Z (.ref C) (some d) H
def Lnk.step{Z:XK}{F a:Hp}{E:DT}{D:Ends}(h:Lnk K Z F E D)(S:z0 F a):Lnk K Z a E D :=
 ⟨λown H I o e s=>h.nx own H I o e (S.trans s),λT H v x B e s=>h.rt T H v x B e (S.trans s),λown H I o e s=>h.bk own H I o e (S.trans s),λown H I o e s=>h.ct own H I o e (S.trans s),λH C d c b W e s=>h.xc H C d c b W e (S.trans s)⟩
def f_(X:Cx)(r:RS):TS:=λD I H=>∃own o E,SR X.K own H I o/\r E o/\Lnk X.K (zx X) (hd (Ow own) H) E D
def QS(X:Cx)(st:Stmt)(r:RS):Prop:=PS X st (f_ X r)
def e_(X:Cx)(st:xS)(r:RS):Prop:=PSs X st (f_ X r)
def PS.imp{t b:TS}(h:PS X st t)(i:∀D I H,b D I H->t D I H):PS X st b:=λU s I H D a q=>h U s I H D a (i D I H q)
def PSs.imp{st:xS}{t b:TS}(h:PSs X st t)(i:∀D I H,b D I H->t D I H):PSs X st b:=λU s I H D a q=>h U s I H D a (i D I H q)
def OM:RS:=λE o=>E.nx o
def oO(a b:RS):RS:=λE o=>a { E with nx:=b E } o
def BI(i:Nat)(a:RE):RS:=λE o=>a o λx=>E.nx (o.set i (.fz (frz x)))
def n'(i:Nat)(a:RE):RS:=λE o=>a o λx=>E.nx (o.set i x)
def LZ(a:RE):RS:=λE o=>a o λ_=>E.nx o
def Lo(a:RE):RS:=λE o=>a o E.rt
def Dn(i:Nat):RS:=λE o=>match slot o i with|.und=>False|x=>E.rt x
def y_(c:RT)(a b:RS):RS:=λE o=>c o λk=>sw k (a E o) (b E o)
def P7:RS:=λ_ _=>False
def yi(i:Nat)(a:RS):RS:=λE o=>match slot o i with|.und=>False|x=>a E (o.set i (.fz (frz x)))
section
variable{K:Frag}{own:Nat->Ψ}{H Y:Hp}{I:L2.St}{o:xy}
def SR.putA(h:SR K own H I o)(E:z0 H Y){x:OT}(n:NR K (Ow own) H Y v x)(i:Nat):∃b,SR K b Y (I.set i (some v)) (o.set i x)/\z0 (hd (Ow own) H) (hd (Ow b) Y):=by
 by_cases a:i<o.length
 .exact h.put E n a
 .rw[lP (Nat.not_lt.mp a),lP (h.len ▸ Nat.not_lt.mp a)];exact⟨own,h.same E,bU E⟩
def NR.frz{S:Addr->Prop}{v:V}{x:OT}(n:NR K S H Y v x)(a:∀b,S b->H b≠none):NR K S H Y v (.fz (L2.frz x)):=NR.fz (n.rep a)
def Slo.val{F:Hp}{v:xD}{A:Ψ}{x:OT}(h:Slo K F H v A x)(n:x≠.und):∃u,v=some u:=by
 cases x with
 |und=>exact absurd rfl n
 |fz t=>exact⟨_,h.2.choose_spec.1⟩
 |l1 W=>obtain⟨a,J,e,_⟩:=h;exact⟨_,e⟩
 |l2 W=>obtain⟨a,J,e,_⟩:=h;exact⟨_,e⟩
 |d1 c W=>obtain⟨a,J,e,_⟩:=h;exact⟨_,e⟩
 |ob a d C c W=>obtain⟨J,e,_⟩:=h;exact⟨_,e⟩
 |la a W=>obtain⟨J,e,_⟩:=h;exact⟨_,e⟩
 |pr W g=>obtain⟨p,a,b,J,ys,e,_⟩:=h;exact⟨_,e⟩
 |gh f t=>obtain⟨_,_,u,e,_⟩:=h;exact⟨_,e⟩
def SR.val(h:SR K own H I o){i:Nat}{x:OT}(e:slot o i=x)(n:x≠.und):∃u,I[i]?=some (some u)/\Slo K (hd (Ow own) H) H (some u) (own i) x:=by
 have s:=h.sl i x (iQ e n);obtain⟨u,a⟩:=s.val n;rw[a]at s;refine⟨u,?_,s⟩;cases z:I[i]? with
 |none=>rw[z]at a;cases a
 |some w=>rw[z]at a;exact ZH some a
end
section
variable{X:Cx}{st:Stmt}{sts:xS}{a b:RS}{e:Expr}{re:RE}{N:Pos}
def bQ:e_ X [] OM:=_J.imp λD I H b=>by obtain⟨own,o,E,h,a,L⟩:=b;exact L.nx own H I o a (.refl _) h
def Co{D:Ends}(h:f_ X (oO a b) D I H):ia (f_ X a) (f_ X b) D I H:=by
 obtain⟨own,o,E,h,e,L⟩:=h;exact⟨own,o,_,h,e,λg Y c d q S f=>⟨g,d,E,f,q,L.step S⟩,L.rt,L.bk,L.ct,L.xc⟩
def bF(d:QS X st a)(c:e_ X sts b):e_ X (st::sts) (oO a b):=(lJ d c).imp λ_ _ _=>Co
def bH(h:QS X st a):e_ X [st] a:=Ze h
def bO(i:Nat){x:Str}(j:QE X e re)(k:X.N.Nodup:=by assumption)(a:fA X.env.scope x:=by first|exact .inl rfl|exact .inr rfl)(f:X.N[i]?=some x:=by rfl)(c:swapsWith e (some (.Name x bo)) N.line X.env=pure false:=by rfl)(g:zw X x:=by first|exact .inl rfl|exact .inr rfl|assumption) :
  QS X (.Assign [.Name x bo] e N) (BI i re):=(Yw k f a j c g).imp λD I H ⟨own,o,E,h,d,L⟩=>⟨own,o,_,h,d,λY v y q S n=>by
 obtain⟨m,l,p⟩:=h.putA S (n.frz λb z=>(h.sole z).ne) i;exact L.nx m Y _ _ q p l⟩
def kY(i:Nat){x:Str}(g:QE X e re)(j:X.N.Nodup:=by assumption)(a:fA X.env.scope x:=by first|exact .inl rfl|exact .inr rfl)(d:X.N[i]?=some x:=by rfl)(b:swapsWith e (some (.Name x bo)) N.line X.env=pure false:=by rfl)(f:zw X x:=by first|exact .inl rfl|exact .inr rfl|assumption) :
  QS X (.Assign [.Name x bo] e N) (n' i re):=(Yw j d a g b f).imp λD I H ⟨own,o,E,h,c,L⟩=>⟨own,o,_,h,c,λY v y q S n=>by
 obtain⟨l,k,m⟩:=h.putA S n i;exact L.nx l Y _ _ q m k⟩
def jy(c:QE X e re)(a:swapsWith e none N.line X.env=pure false:=by rfl):QS X (.Expr e N) (LZ re):=(wL c a).imp λD I H d=>by obtain⟨own,o,E,h,b,L⟩:=d;exact⟨own,o,_,h,b,λY v y q S n=>L.nx own Y I o q (bU S) (h.same S)⟩
def bN(f:QE X e re):QS X (.Return (some e) N) (Lo re):=(Rv f).imp λD I H ⟨own,o,E,h,d,L⟩=>⟨own,o,_,h,d,λY v y q S n=>by
 obtain⟨B,c,s⟩:=n;exact L.rt _ Y v y B q (jT (λb z=>z.imp id (c b)) S) s λa g=>.inr g⟩
def mG(i:Nat){x:Str}(g:n_X X i x:=by exact⟨rfl,rfl,wf,wf⟩):QS X (.Return (some (.Name x p)) N) (Dn i):=(Rv (pv i g)).imp λD I H f=>by
 obtain⟨own,o,E,h,b,L⟩:=f;have b:E.rt (slot o i)/\slot o i≠.und:=by
  unfold Dn at b;cases e:slot o i<;>rw[e]at b<;>first|exact b.elim|exact⟨b,λz=>by cases z⟩
 obtain⟨u,e,s⟩:=h.val rfl b.2;exact⟨u,e,L.rt (Ow own) H u _ _ b.1 (.refl _) s λa d=>⟨i,d⟩⟩
def cG{e W:xS}{f:RT}(i:QT X c f)(k:e_ X e a)(j:e_ X W b):QS X (.If c e W N) (y_ f a b):=(M0 i k j).imp λD I H ⟨own,o,E,h,g,L⟩=>tQT.mk h g λZ c q d =>
 Li q (λq=>⟨own,o,E,h.same d,q,L.step (bU d)⟩) λq=>⟨own,o,E,h.same d,q,L.step (bU d)⟩
def eZ:QS X st P7:=_C.imp λD I H b=>by obtain⟨own,o,E,h,a,L⟩:=b;exact a
def Ul(i:Nat)(c:QS X st a):QS X st (yi i a):=PS.imp c λD I H d=>by
 obtain⟨own,o,E,h,b,L⟩:=d;have b:a E (o.set i (.fz (frz (slot o i))))/\slot o i≠.und:=by
  unfold yi at b;cases e:slot o i<;>rw[e]at b<;>first|exact b.elim|exact⟨b,λz=>by cases z⟩
 obtain⟨u,g,s⟩:=h.val rfl b.2;obtain⟨j,f,S⟩:=h.frz (iQ rfl b.2) g;exact⟨j,_,E,f,b.1,L.step S⟩
def Hv(h:S D):hd S (upd H D u)=hd S H:=funext λb=>by
 by_cases z:S b
 .rw[sZ z,sZ z]
 .rw[cY z,cY z,cA λ(e:b=D)=>z (e.symm ▸ h)]
def Ha:OT->Option (List T×(xj->OT))
 |.l1 W=>some (W,.l1)
 |.la a W=>some (W,.la a)
 |_=>none
def gS(x:OT)(k:xj->(xj->OT)->Prop):Prop:=match Ha x with|some (W,c)=>k W c|none=>False
def H_{x:OT}{k:xj->(xj->OT)->Prop}(h:gS x k):∃W c,k W c/\((x=.l1 W/\c=.l1)\/∃a,x=.la a W/\c=.la a):=by
 cases x with
 |l1 W=>exact⟨W,_,h,.inl ⟨rfl,rfl⟩⟩
 |la a W=>exact⟨W,_,h,.inr ⟨a,rfl,rfl⟩⟩
 |_=>exact h.elim
def LU(i:Nat)(a:RE):RS:=λE o=>gS (slot o i) λW c=>a o λy=>W.length<sizeLine/\E.nx (o.set i (c (W++[frz y])))
def SR.l1{K:Frag}{own:Nat->Ψ}{H:Hp}{I:L2.St}{o:xy}(h:SR K own H I o){i:Nat}{W:xj}{c:xj->OT}(e:(slot o i=.l1 W/\c=.l1)\/∃a,slot o i=.la a W/\c=.la a):∃l J,I[i]?=some (some (.ref l))/\own i=[l]/\H l=some (.lst J)/\bV K (hd (Ow own) H) J W/\∀(Y:Hp)(ys:Ζ)d,Y l=some (.lst ys)->bV K (hd (Ow own) Y) ys d->Slo K (hd (Ow own) Y) Y (some (.ref l)) [l] (c d):=by
 rcases e with⟨e,rfl⟩|⟨a,e,rfl⟩
 .obtain⟨u,k,l,J,j,g,f,r⟩:=h.val e (by intro z;cases z);cases j;exact⟨l,J,k,g,f,r,λY ys d a b=>⟨l,ys,rfl,rfl,a,b⟩⟩
 .obtain⟨u,k,J,j,g,f,r⟩:=h.val e (by intro z;cases z);cases j;exact⟨a,J,k,g,f,r,λY ys d a b=>⟨ys,rfl,rfl,a,b⟩⟩
def Nb{o:xy}{i:Nat}{c:xj->OT}(e:(slot o i=.l1 W/\c=.l1)\/∃a,slot o i=.la a W/\c=.la a):∃x,o[i]?=some x:=by
 rcases e with⟨e,_⟩|⟨a,e,_⟩
 .exact⟨_,iQ e (by intro z;cases z)⟩
 .exact⟨_,iQ e (by intro z;cases z)⟩
def SR.chg1{o:xy}(h:SR K own H I o){i:Nat}{a:xj}{c:xj->OT}(e:∃x,o[i]?=some x){l:Addr}(d:I[i]?=some (some (.ref l)))(f:own i=[l])(sl:∀(Y:Hp)(ys:Ζ)a,Y l=some (.lst ys)->bV K (hd (Ow own) Y) ys a->Slo K (hd (Ow own) Y) Y (some (.ref l)) [l] (c a))(r:bV K (hd (Ow own) H) ys a):SR K own (upd H l (.lst ys)) I (o.set i (c a))/\z0 (hd (Ow own) H) (hd (Ow own) (upd H l (.lst ys))):=by
 obtain⟨x,e⟩:=e;refine h.chg e (λb u g e=>(cA λz=>g (by rw[f,z];simp)).trans e) ?_;rw[d,f];exact sl _ ys a cF (by rw[Hv ⟨i,by rw[f];simp⟩];exact r)
def uD(i:Nat){x:Str}{d:Pos}(z:QE X e re)(C:n_X X i x:=by exact⟨rfl,rfl,wf,wf⟩)
 (A:attributeBase (.Name x p) "append" X.env (eval (.Name x p) X.env)=eval (.Name x p) X.env:=by rfl)
 (w:zk X af e:=by rfl)
 (u:ze d af:=by rfl)(j:qS X e []:=by rfl)(t:qE X af []:=by rfl)
 (s:swapsWith (.Call (.Attribute (.Name x p) "append" d) [e] [] af) none N.line X.env=pure false:=by rfl) :
  QS X (.Expr (.Call (.Attribute (.Name x p) "append" d) [e] [] af) N) (LU i re):=(wL (EN (pv i C) (f9 z zG j) A w u j t) s).imp λD I H B=>by
 obtain⟨own,o,E,h,b,L⟩:=B;obtain⟨W,c,b,es⟩:=H_ b;obtain⟨l,J,g,G,f,r,k⟩:=h.l1 es;refine⟨_,g,l,J,rfl,f,tQ.mk h b λZ v y q a m=>⟨v,J,rfl,a _ _ f,by rw[r.len];exact q.1,?_⟩⟩;obtain⟨F,S⟩:=(h.same a).chg1 (Nb es) g G k ((r.same (bU a)).app (.cons m .nil));exact L.nx own _ I _ q.2 ((bU a).trans S) F
def HE(i:Nat)(a b:RE):RS:=λE o=>gS (slot o i) λW c=>a o λy=>b o λk=>(match frz k with|.int j=>∃n,c6 W.length j=some n/\E.nx (o.set i (c (W.set n (frz y))))|_=>False)
def Hy(i:Nat){x:Str}{k:Expr}{m:RE}(K:QE X e re)(G:QE X k m)(P:n_X X i x:=by exact⟨rfl,rfl,wf,wf⟩)
 (M:∀v,assign (.Subscript (.Name x p) k az) X.env v=(do
   let a <- holding [v] (eval (.Name x p) X.env)
   let g <- holding [v,a] (eval k X.env)
   standAt az
   holding [v,a,g] (setItem a g v)
   release [v,a,g] []):=by intro _;rfl)
 (F:swapsWithSole [.Subscript (.Name x p) k az] e N.line X.env=pure false:=by rfl)(hw:swappedStores [.Subscript (.Name x p) k az] e X.env=pure none:=by rfl)
 (Q:(assignEach [.Subscript (.Name x p) k az] X.env).map (·.2)=[assign (.Subscript (.Name x p) k az) X.env]:=by rfl):QS X (.Assign [.Subscript (.Name x p) k az] e N) (HE i re m):=(XJ K (D1 (pv i P) G set_list M) F hw Q).imp λD I H O=>by
 obtain⟨own,o,E,h,j,L⟩:=O;obtain⟨W,c,j,es⟩:=H_ j;obtain⟨l,J,s,V,U,r,B⟩:=h.l1 es;refine tQ.mk h j λZ v y q A f=>⟨_,s,tQ.mk (h.same A) q λH2 w z q u d=>?_⟩;have f:=f.same (bU u)
 revert d q
 generalize frz z=t;intro q d;cases t<;>try exact q.elim
 cases d;obtain⟨n,T,q⟩:=q;have b:=A.trans u;refine⟨l,J,_,n,rfl,rfl,b _ _ U,by rw[r.len];exact T,?_⟩;obtain⟨R,S⟩:=(h.same b).chg1 (Nb es) s V B (bV.set f n (r.same (bU b)));exact L.nx own _ I _ q ((bU b).trans S) R
def LF(i:Nat)(b:RE):RE:=λo q=>gS (slot o i) λW _=>b o λy=>(match frz y with|.int j=>∃t,ca W j=some t/\q (.fz t)|_=>False)
def uG(i:Nat){x:Str}{b:Expr}(n:QE X b rb)(u:n_X X i x:=by exact⟨rfl,rfl,wf,wf⟩)(m:vD b:=by exact λ_ _=>rfl):QE X (.Subscript (.Name x p) b N) (LF i rb):=(Pz Bf (pv i u) n m).imp λI H Q s=>by
 obtain⟨own,o,R,h,e,k⟩:=s;obtain⟨W,c,e,es⟩:=H_ e;obtain⟨a,J,z,E,w,r,D⟩:=h.l1 es;refine⟨_,z,tQ.mk h e λZ v y q f d=>?_⟩
 revert d q
 generalize frz y=t;intro q d;cases t<;>try exact q.elim
 cases d;obtain⟨t,j,q⟩:=q;obtain⟨v,A,g⟩:=r.ix j;exact⟨a,J,_,v,rfl,rfl,.of (f _ _ w),A,k Z _ _ q f (NR.fz (g.same (bU f)))⟩
def CU(i:Nat)(f:Int->Int->Int)(a:RE):RS:=λE o=>match slot o i with|.fz (.int k)=>a o λy=>(match frz y with|.int j=>E.nx (o.set i (.fz (.int (f k j))))|_=>False)|_=>False
def PQ(i:Nat){x:Str}{op:Operator}{f:Int->Int->Int}(g:p5 X op (r8 f))(l:QE X e re)(n:X.N.Nodup:=by assumption)(d:fA X.env.scope x:=by first|exact .inl rfl|exact .inr rfl)(j:X.N[i]?=some x:=by rfl)(k:zw X x:=by first|exact .inl rfl|exact .inr rfl|assumption):QS X (.AugAssign (.Name x bo) op e N) (CU i f re):=(Pe n j d l g k).imp λD I H m=>by
 obtain⟨own,o,E,h,a,L⟩:=m;unfold CU at a;cases es:slot o i with
 |fz t =>
  rw[es]at a;cases t<;>try exact a.elim
  obtain⟨u,s,r⟩:=h.get (iQ es (by intro z;cases z));cases r;refine⟨_,s,tQ.mk h a λZ v y q c b=>?_⟩
  revert b q
  generalize frz y=t;intro q b;cases t<;>try exact q.elim
  cases b;refine⟨_,_,rfl,rfl,?_⟩;obtain⟨w,p,S⟩:=(h.same c).putA (.refl _) (NR.fz (.int _)) i;exact L.nx w _ _ _ q ((bU c).trans S) p
 |_=>rw[es]at a;exact a.elim
def Ip(n:Nat)(own b:Nat->Ψ)(I a:L2.St):Prop:=(∀j,b j=own j\/(j<n/\b j=[]))/\a.length=I.length/\∀j,n<=j->a[j]?=I[j]?
def Ip.refl : Ip n own own I I:=⟨λ_=>.inl rfl,rfl,λ_ _=>rfl⟩
def Ip.trans{n:Nat}{own own1 g:Nat->Ψ}{I d c:L2.St}(a:Ip n own own1 I d)(b:Ip n own1 g d c):Ip n own g I c :=
 ⟨λj=>(b.1 j).elim (λe=>(a.1 j).imp (λz=>e.trans z) λz=>⟨z.1,e.trans z.2⟩) .inr,b.2.1.trans a.2.1,λj f=>(b.2.2 j f).trans (a.2.2 j f)⟩
def Ip.same{d:Nat->Ψ}{c:L2.St}(a:Ip n own d I c) : z0 (hd (Ow own) H) (hd (Ow d) H):=jT (λb f=>by obtain⟨j,z⟩:=f;exact .inl ⟨j,(a.1 j).elim (λe=>e ▸ z) λe=>by rw[e.2]at z;cases z⟩) λ_ _ z=>z
abbrev zh:Type:=T->xy->(xy->Prop)->Prop
def gb(K:Frag)(n:Nat)(g:zh):TG:=λv I H Q=>∃own o t R,SR K own H I o/\Rep K (hd (Ow own) H) v t/\g t o R/\∀c a b,R b->Ip n own c I a->SR K c H a b->Q a H
def QG(X:Cx)(n:Nat)(tg:Expr)(g:zh):Prop:=PG X tg (gb X.K n g)
abbrev zt:Type:=xj->xy->(xy->Prop)->Prop
def kr(X:Cx)(n:Nat)(tg:xw)(g:zt):Prop:=PGs X tg λv I H Q=>∃own o t R,SR X.K own H I o/\bV X.K (hd (Ow own) H) v t/\g t o R/\∀c a b,R b->Ip n own c I a->SR X.K c H a b->Q a H
def PGs.imp{tg:xw}{t b:f7}(h:PGs X tg t)(i:∀v I H Q,b v I H Q->t v I H Q):PGs X tg b:=λU s I H v u Q a r q=>h U s I H v u Q a r (i _ _ _ _ q)
def hName(i:Nat):zh:=λt o q=>q (o.set i (.fz t))
def Lv:zt:=λW o q=>match W with|[]=>q o|_=>False
def Nc(g:zh)(b:zt):zt:=λW o q=>match W with|t::W=>g t o λa=>b W a q|_=>False
def IH(n:Nat)(a:zt):zh:=λt o q=>match t with|.tup W=>W.length=n/\a W o q|_=>False
def SR.setF{o:xy}(h:SR K own H I o)(r:Rep K (hd (Ow own) H) v t){i:Nat}(q:i<n):∃p,SR K p H (I.set i (some v)) (o.set i (.fz t))/\Ip n own p I (I.set i (some v)):=by
 have le:z0 (hd (Ow own) H) (hd (Ow (own1 own i [])) H):=jT (λb z=>.inl (z.of1.elim id λy=>(nomatch y))) λ_ _ z=>z;have m:Ip n own (own1 own i []) I (I.set i (some v)):=⟨λj=>by
  by_cases z:j=i
  .exact .inr ⟨z ▸ q,by rw[z,lA]⟩
  .exact .inl (gq z),VT,λj g=>UT wp⟩
 by_cases c:i<o.length
 .refine⟨own1 own i [],⟨by rw[VT,VT,h.len],λj y e=>?_,λj g a l=>?_,λj k a f d=>?_⟩,m⟩
  .by_cases z:j=i
   .subst z;rw[Tx c]at e;cases e;rw[lA,Tx (h.len ▸ c)];exact⟨rfl,v,rfl,r.same le⟩
   .rw[UT (Ne.symm z)]at e;rw[gq z,UT (Ne.symm z)];exact(h.sl j y e).same le λ_ _ z=>z
  .rw[VT]at g;rw[gq wp]at l;exact h.out j g a l
  .by_cases z:j=i
   .rw[z,lA]at f;cases f
   by_cases y:k=i
   .rw[y,lA]at d;cases d
   .rw[gq z]at f;rw[gq y]at d;exact h.dis j k a f d
 .refine⟨own,?_,⟨λ_=>.inl rfl,m.2⟩⟩;rwa[lP (Nat.not_lt.mp c),lP (h.len ▸ Nat.not_lt.mp c)]
def cB(i:Nat){x:Str}(hN:X.N.Nodup:=by assumption)(hx:fA X.env.scope x:=by first|exact .inl rfl|exact .inr rfl)(hi:X.N[i]?=some x:=by rfl)(hn:i<n:=by decide)(hf:zw X x:=by first|exact .inl rfl|exact .inr rfl|assumption):QG X n (.Name x N) (hName i):=(mD hN hi hx hf).imp λv I H Q b=>by
 obtain⟨own,o,t,R,h,r,a,k⟩:=b;obtain⟨d,c,S⟩:=h.setF r hn;exact k d _ _ a S c
def dN : kr X n [] Lv:=VE.imp λv I H Q b=>by
 obtain⟨own,o,t,R,h,r,a,k⟩:=b;cases r with
 |nil=>exact⟨rfl,k own I o a .refl h⟩
 |cons _ _=>exact a.elim
def bT{e:Expr}{g:zh}{i:zt}(u:QG X n e g)(d:kr X n es i)(p:(assignEach (e::es) X.env).map (·.2)=assign e X.env::(assignEach es X.env).map (·.2):=by rfl):kr X n (e::es) (Nc g i):=(abM u d p).imp λv I H Q s=>by
 obtain⟨own,o,t,R,h,r,f,k⟩:=s;cases r with
 |nil=>exact f.elim
 |cons a b=>exact⟨_,_,rfl,own,o,_,_,h,a,f,λy j m q S w=>⟨y,m,_,R,w,b.same S.same,q,λx c l q z d=>k x c l q (S.trans z) d⟩⟩
def fH{m:Nat}{c:zt}(h:kr X m es c)(hc:X.calm:=by rfl)(d:(assignEach es X.env).length=n:=by rfl)(g:zi X es:=by rfl):QG X m (.Tuple es k N) (IH n c):=(NS hc h d g).imp λv I H Q f=>by
 obtain⟨own,o,t,R,h,r,b,k⟩:=f;cases t<;>try exact b.elim
 obtain⟨a,J,rfl,e,r⟩:=r.tupI;exact⟨a,J,rfl,dW.tup e,r.len.trans b.1,own,o,_,R,h,r,b.2,k⟩
def IM(a:RE)(g:zh):RS:=λE o=>a o λx=>g (frz x) o E.nx
def Q8{g:zh}(l:QE X e re)(k:QG X n tg g)(i:swapsWithSole [tg] e N.line X.env=pure false:=by rfl)(f:swappedStores [tg] e X.env=pure none:=by rfl)(p:(assignEach [tg] X.env).map (·.2)=[assign tg X.env]:=by rfl):QS X (.Assign [tg] e N) (IM re g) :=
 (XJ l k i f p).imp λD I H m=>by obtain⟨own,o,E,h,j,L⟩:=m;exact tQ.mk h j λZ v y q b c=>⟨own,o,_,_,h.same b,c,q,λs a d q S r=>L.nx s Z a d q ((bU b).trans S.same) r⟩
end
def start'(n:Nat)(W:xj):xy:=W.map OT.fz++replicate (n-W.length) .und
def SR.start{H:Hp}{d:Ζ}{W:xj}(r:bV K H d W)(N:Φ):SR K (λ_=>[]) H (start N d) (start' N.length W):=by
 have l:Ow (λ_=>[])=λ_=>False:=funext λb=>propext ⟨λh=>by obtain⟨_,z⟩:=h;exact(nomatch z),False.elim⟩;refine⟨by unfold start' L2.start;simp[r.len],λi x e=>?_,λ_ _ _ z=>(nomatch z),λi j a z=>(nomatch z)⟩;rw[l,Zj];unfold start' at e;unfold L2.start;by_cases c:i<W.length
 .rw[aF (by simpa using c),aq,aj c]at e;cases e;obtain⟨v,k,g⟩:=r.at_ (aj c);rw[aF (by rwa[ak,r.len]),aq,k];exact⟨rfl,v,rfl,g⟩
 .rw[aD (by simpa using c),ak,X1]at e;by_cases f:i-W.length<N.length-W.length
  .rw[ZY f]at e;cases e;rfl
  .rw[ZZ f]at e;cases e
def Ca : hd (Ow λ_=>[]) H=H:=by rw[show Ow (λ_=>[])=λ_=>False from funext λb=>propext ⟨λa=>by obtain⟨_,z⟩:=a;exact(nomatch z),False.elim⟩,Zj]
def Ec(q:∀Y v x,R x->z0 H Y->NR K (λ_=>False) H Y v x->Q v Y)(S:Addr->Prop)(Y:Hp)(v:V)(x:OT)(B:Ψ)(d:R x)(E:z0 H (hd S Y))(s:Slo K (hd S Y) Y (some v) B x)(c:∀a∈B,S a):Q v Y :=
 q Y v x d (E.trans dW) ⟨B,λa e=>E.free (sZ (c a e)),s.same (jT (λb z=>.inl (z.elim False.elim (c b))) λ_ _ z=>z) λ_ _ z=>z⟩
def Fun.okT{x:Str}{N:Φ}{S:ST}(F:Fun K x qual st f fd)(g:bK N ps (bG st))
 {r}(u:∀{b:Value}{A:Around}{a:xt}{s:Shared}{H:Hp}{E:XK},dY k (A.deeper (envOfC qual (bG st) s.zs f b))->N.Nodup ->e_ (Ls ab P w K mg base N qual (bG st) f b A a s H E).nox (dZ st) r)(y:∀W R,S W R->r { nx:=λ_=>R (.fz .non),rt:=R } (start' N.length W))(d:∀W R,S W R->W.length=ps.length:=by intro _ _ h;repeat (first|exact(ZH List.length h.1).trans rfl|obtain⟨_,h⟩:=h)):bW P w K mg base ab (k+1) f fd ps (am K S):=by
 refine F.ok g (λl H Q E h=>?_) λb A a s H l Q E m h=>?_
 .obtain⟨W,R,r,e,_⟩:=h;exact r.len.trans (d W R e)
 .obtain⟨W,R,r,e,q⟩:=h;have t:=@u b A a s H E m g.nd;have p:=y;have i:=Ca (H:=H);have j:=Ec q;refine⟨_,t,λ_=>[],_,_,SR.start r N,p W R e,⟨λown Y I o c E h=>?_,λC Y v x B c E s n=>j C Y v x B c (i ▸ E) s n,λ_ _ _ _ z=>z.elim,λ_ _ _ _ z=>z.elim,λ_ _ _ _ _ _ z=>z.elim⟩⟩;exact j (Ow own) Y .non _ [] c (i ▸ E) ⟨rfl,_,rfl,.non⟩ λ_ z=>(nomatch z)
abbrev RI:=xy->(xj->Prop)->Prop
def ie(K:Frag)(a:It)(F:Hp)(J:xj):Prop:=∀(S:Addr->Prop)(H:Hp)(i:Nat),(∀b,S b->H b≠none)->z0 F (hd S H) ->
 (i=J.length->a.stop i H)/\∀t,J[i]?=some t->a.go i H/\∀x Y,a.yld i H x Y->z0 H Y/\Rep K (hd S Y) x t
def io(K:Frag)(r:RI):TI:=λI H Q=>∃own o R,SR K own H I o/\r o R/\∀Y a J,R J->z0 H Y->ie K a (hd (Ow own) Y) J->Q a Y
def QI(X:Cx)(tg a:Expr)(r:RI):Prop:=PI X tg a (io X.K r)
def PI.imp{c:Expr}{t b:TI}(h:PI X tg c t)(i:∀I H Q,b I H Q->t I H Q):PI X tg c b:=λU s I H Q a q=>h U s I H Q a (i I H Q q)
def I0(a:RE):RI:=λo q=>a o λx=>match frz x with|.lst W=>q W|_=>False
def LB(a:RE):RI:=λo q=>a o λx=>match frz x with|.tup W=>q W|_=>False
def ED{t:Addr}(n:H t=none)(a:∀b,S b->H b≠none):hd S (upd H t u) t=some u:=by rw[cY λz=>a t z n];exact cF
variable{g:zh}{iter be:Expr}{ri:RI}{rc:RT}{re:RE}{Z:Hp}{aS:xw}{O:Scope}{i0:Nat}{y0:Str}{S:ST}{pl:Sem Bool}{j:Int}{ks:xi}{as:Ψ}{p1:Pos}
section
variable{X:Cx}{tg:Expr}{e a b:Expr}{re ra rb:RE}{p N az:Pos}
def cI(n:QE X e re):QI X tg e (I0 re):=(WC n).imp λI H Q ⟨own,o,R,h,l,k⟩=>tQ.mk h l λZ v x q p c=>by
 revert c q
 generalize frz x=t;intro q c;cases t<;>try exact q.elim
 obtain⟨a,J,rfl,e,r⟩:=c.lstI;refine⟨a,rfl,⟨J,.of (cW e).2⟩,k Z _ _ q p λS u i _ b=>⟨λm=>⟨J,.of (cW (b _ _ e)).2,by rw[r.len];exact WG m.symm⟩,λt j=>?_⟩⟩;obtain⟨y,d,f⟩:=r.at_ j;refine⟨⟨J,y,.of (cW (b _ _ e)).2,d⟩,?_⟩;rintro x s ⟨rfl,g⟩;have:=g J (.of (cW (b _ _ e)).2);rw[d]at this;cases this;exact⟨.refl _,f.same b⟩
def RY(n:QE X e re):QI X tg e (LB re):=(R1 n).imp λI H Q ⟨own,o,R,h,l,k⟩=>tQ.mk h l λZ v x q p c=>by
 revert c q
 generalize frz x=t;intro q c;cases t<;>try exact q.elim
 obtain⟨a,J,rfl,e,r⟩:=c.tupI;refine⟨a,rfl,⟨J,dW.tup e⟩,k Z _ _ q p λS u i _ b=>⟨λm=>⟨J,(b.trans dW).tup e,by rw[r.len];exact WG m.symm⟩,λt j=>?_⟩⟩;obtain⟨y,d,f⟩:=r.at_ j;refine⟨⟨J,y,(b.trans dW).tup e,d⟩,?_⟩;rintro x s ⟨rfl,g⟩;have:=g J ((b.trans dW).tup e);rw[d]at this;cases this;exact⟨.refl _,f.same b⟩
def rng(lo:Int)(n:Nat):xj:=(range n).map λk:Nat=>.int (lo+k)
def Ff{lo:Int}{F:Hp} : ie K (kG lo n) F (rng lo n):=λS H i _ _=>⟨λb=>by rw[rng,ak,WH]at b;exact WG b.symm,λt a=>by
 unfold rng at a;rw[aq]at a;by_cases b:i<n
 .rw[Up b]at a;cases a;refine⟨b,?_⟩;rintro x Y ⟨rfl,rfl⟩;exact⟨.refl _,.int _⟩
 .rw[aM (by simpa using b)]at a;cases a⟩
def LH(r:RA):RI:=λo q=>r o λW=>match W with|[.int j]=>(-(2^62)<=j/\j<2^62)/\q (rng 0 j.toNat)|_=>False
def He(r:RA):RI:=λo q=>r o λW=>match W with|[.int i,.int j]=>(-(2^62)<=i/\i<2^62/\-(2^62)<=j/\j<2^62)/\q (rng i (j-i).toNat)|_=>False
def fQ(f:X.mg "range"=none)(i:QA X [a] r)(g:Gl X "range":=by rfl)(d:starEach [a] X.env=[(false,eval a X.env)]:=by rfl):QI X tg (.Call (.Name "range" p) [a] [] N) (LH r):=(aaC g f i d).imp λI H Q ⟨own,o,R,h,e,k⟩=>⟨own,o,_,h,e,λZ m W q _ l c=>by
 match W,q with
 |[.int j],q =>
  obtain⟨x,rfl,b⟩:=c.one;cases b;exact⟨j,rfl,q.1.1,q.1.2,k Z _ _ q.2 l Ff⟩⟩
def B_(l:X.mg "range"=none)(n:QA X [a,b] r)(m:Gl X "range":=by rfl)(f:starEach [a,b] X.env=[(false,eval a X.env),(false,eval b X.env)]:=by rfl)(s:starEach [b] X.env=[(false,eval b X.env)]:=by rfl):QI X tg (.Call (.Name "range" p) [a,b] [] N) (He r):=(aaY m l n f s).imp λI H Q ⟨own,o,R,h,g,k⟩=>⟨own,o,_,h,g,λZ u W q _ t e=>by
 match W,q with
 |[.int i,.int j],q =>
  obtain⟨x,y,rfl,d,c⟩:=e.two;cases d;cases c;exact⟨i,j,rfl,q.1,k Z _ _ q.2 t Ff⟩⟩
def Dc(W:xj):xj:=W.zipIdx.map λp=>.tup [.int (p.2:Nat),p.1]
def KP(r:RA):RI:=λo q=>r o λW=>match W with|[.lst W]=>q (Dc W)|_=>False
def Fz{C:xw}{l}(w:X.mg "enumerate"=none)(A:QA X [a] r)(z:Gl X "enumerate":=by rfl)(f:starEach [a] X.env=[(false,eval a X.env)]:=by rfl):QI X (.Tuple C l az) (.Call (.Name "enumerate" p) [a] [] N) (KP r):=(WB z w A f).imp λI H Q ⟨own,o,R,h,v,k⟩=>⟨own,o,_,h,v,λZ F W q _ D u=>by
 match W,q with
 |[.lst W],q =>
  obtain⟨x,rfl,s⟩:=u.one;obtain⟨a,J,rfl,e,r⟩:=s.lstI;refine⟨a,J,rfl,(cW e).2,k Z _ _ q D λS L i f d=>⟨λc=>⟨J,(cW (d _ _ e)).2,by rw[r.len,c];simp[Dc]⟩,λt b=>?_⟩⟩;unfold Dc at b;rw[aq]at b;by_cases c:i<W.length
  .rw[aj (by simpa using c),List.getElem_zipIdx]at b;cases b;obtain⟨y,B,m⟩:=r.at_ (aj c);refine⟨⟨J,(cW (d _ _ e)).2,by rwa[r.len]⟩,?_⟩;rintro x K ⟨G,E,t,j,g,n,rfl,rfl⟩;rw[(cW (d _ _ e)).2]at j;cases j;rw[B]at g;cases g;refine⟨z0.upd n,.tup (.of (ED n f)) (.cons ?_ (.cons (m.same (d.trans (bU (z0.upd n)))) .nil))⟩;rw[show((0+i:Nat):Int)=(i:Int)by lia];exact .int _
  .rw[aM (by simpa using c)]at b;cases b⟩
def xZ(W a:xj):xj:=(W.zip a).map λp=>.tup [p.1,p.2]
def IA(r:RA):RI:=λo q=>r o λW=>match W with|[.lst W,.lst a]=>q (xZ W a)|_=>False
def zJ{U:xw}{B}(K:X.mg "zip"=none)(M:QA X [a,b] r)(L:Gl X "zip":=by rfl)(s:starEach [a,b] X.env=[(false,eval a X.env),(false,eval b X.env)]:=by rfl)(O:starEach [b] X.env=[(false,eval b X.env)]:=by rfl):QI X (.Tuple U B az) (.Call (.Name "zip" p) [a,b] [] N) (IA r):=(P' L K M s O).imp λI H Q ⟨own,o,R,h,G,k⟩=>⟨own,o,_,h,G,λZ vs W q _ V F=>by
 match W,q with
 |[.lst W,.lst C],q =>
  obtain⟨x,y,rfl,E,l⟩:=F.two;obtain⟨a,J,rfl,e,r⟩:=E.lstI;obtain⟨b,ys,rfl,j,m⟩:=l.lstI;refine⟨a,b,J,ys,rfl,(cW e).2,(cW j).2,k Z _ _ q V λS H2 i s c=>⟨λf=>⟨J,ys,(cW (c _ _ e)).2,(cW (c _ _ j)).2,?_⟩,λt d=>?_⟩⟩
  .rw[r.len,m.len];rw[xZ,ak,VZ]at f;lia
  .unfold xZ at d;rw[aq]at d;by_cases f:i<W.length/\i<C.length
   .rw[aj (by rw[VZ];omega),getElem_zip]at d;cases d;obtain⟨y,T,l⟩:=r.at_ (aj f.1);obtain⟨z,P,D⟩:=m.at_ (aj f.2);refine⟨⟨J,ys,(cW (c _ _ e)).2,(cW (c _ _ j)).2,by rw[r.len];exact f.1,by rw[m.len];exact f.2⟩,?_⟩;rintro x H3 ⟨fI,kS,x',Y,t,w,u,v,g,n,rfl,rfl⟩;rw[(cW (c _ _ e)).2]at w;cases w;rw[(cW (c _ _ j)).2]at u;cases u;rw[T]at v;cases v;rw[P]at g;cases g;have A:=c.trans (bU (S:=S) (z0.upd (o:=.tup [y,z]) n));exact⟨z0.upd n,.tup (.of (ED n s)) (.cons (l.same A) (.cons (D.same A) .nil))⟩
   .rw[aM (by rw[VZ];omega)]at d;cases d⟩
def yp(g:zh)(b:RS)(E:DT):xj->xy->Prop
 |[],o=>E.nx o
 |t::W,o=>∃N:xy->Prop,(∀o,N o->yp g b E W o)/\g t o λa=>b { E with nx:=N,ct:=N,bk:=E.nx } a
def KW(a:RI)(g:zh)(b:RS):RS:=λE o=>a o λJ=>yp g b E J o
def eV{f:xS}{rb:RS}(r:QI X tg iter ri)(hg:QG X n tg g)(hb:e_ X f rb)(hc:X.calm:=by rfl)(hp:PassesOwn (model X.prog X.w) X.A X.env X.xe:=by first|exact PassesOwn.never|exact PassesOwn.leaving)
 (hs:zg X iter:=by intro _;rfl):QS X (.For tg iter f [] N) (KW ri g rb):=(Pv hp hc r hg hb hs).imp λD I H ⟨own,o,E,h,hr,L⟩=>⟨own,o,_,h,hr,λZ e J q R wk=>by
 refine⟨λi m k Y=>∃l u,SR X.K l Y k u/\z0 (hd (Ow own) Z) (hd (Ow l) Y)/\yp g rb E (J.drop i) u/\i<=J.length/\m=J.length-i,⟨_,own,o,h.same R,.refl _,q,aZ _,rfl⟩,?_⟩;rintro i m k Y ⟨l,u,G,O,p,il,rfl⟩;obtain⟨w1,w2⟩:=wk (Ow l) Y i (λb z=>(G.sole z).ne) O;have S0:=(bU R).trans O;by_cases r:i<J.length
 .right;obtain⟨go,W⟩:=w2 _ (aj r);rw[ka r]at p;obtain⟨d,T,p⟩:=p;refine⟨go,λs B=>∃F C,SR X.K F B s C/\z0 (hd (Ow own) Z) (hd (Ow F) B)/\yp g rb E (J.drop (i+1)) C,λs B ⟨F,C,a,b,c⟩=>⟨J.length-(i+1),by omega,F,C,a,b,c,r,rfl⟩,λx B y=>?_⟩;obtain⟨U,rx⟩:=W x B y;refine⟨l,u,_,_,G.same U,rx,p,λfS V o3 q3 i5 h3=>⟨fS,o3,_,h3,q3,?_⟩⟩;have M:=O.trans ((bU (S:=Ow l) U).trans i5.same);have P:=L.step ((bU R).trans M);exact⟨λv Q j t q S h=>⟨v,t,h,M.trans S,T _ q⟩,P.rt,λv Q j t q S h=>P.nx v Q j t q S h,λv Q j t q S h=>⟨v,t,h,M.trans S,T _ q⟩,P.xc⟩
 .left;refine⟨w1 wp,?_⟩;rw[JS (Nat.not_lt.mp r)]at p;exact L.nx l Y k u p S0 G⟩
def Si(c:RT)(b:RS):RS:=λE o=>∃W:Nat->xy->Prop,(∃m,W m o)/\∀m o,W m o->c o λk=>sw k (∃N:xy->Prop,(∀a,N a->∃d,d<m/\W d a)/\b { E with nx:=N,ct:=N,bk:=E.nx } o) (E.nx o)
def GZ{e:xS}{rb:RS}(Q:QT X c rc)(R:e_ X e rb)(P:PassesOwn (model X.prog X.w) X.A X.env X.xe:=by first|exact PassesOwn.never|exact PassesOwn.leaving):QS X (.While c e [] N) (Si rc rb):=(abW P Q R).imp λD I H p=>by
 obtain⟨own,o,E,h,O,L⟩:=p;obtain⟨W,⟨J,G⟩,st⟩:=O;refine⟨λm g Y=>∃s i,SR X.K s Y g i/\z0 (hd (Ow own) H) (hd (Ow s) Y)/\W m i,⟨J,own,o,h,.refl _,G⟩,?_⟩;rintro m g Y ⟨s,i,v,C,F⟩;refine tQT.mk v (st m i F) λZ k q u=>Li q (λp=>?_) λq=>L.nx s Z g i q (C.trans (bU u)) (v.same u);obtain⟨d,T,q⟩:=p;have x:=C.trans (bU u);have y:=L.step x;refine⟨λj B=>∃t n,SR X.K t B j n/\z0 (hd (Ow own) H) (hd (Ow t) B)/\d n,λj B p=>?_,s,i,_,v.same u,q,⟨λr z f l q S h=>⟨r,l,h,x.trans S,q⟩,y.rt,λr z f l q S h=>y.nx r z f l q S h,λr z f l q S h=>⟨r,l,h,x.trans S,q⟩,y.xc⟩⟩;obtain⟨t,n,a,b,c⟩:=p;obtain⟨M,lt,w⟩:=T n c;exact⟨M,lt,t,n,a,b,w⟩
end
def iH(g:zh)(c:RT)(e:RE)(o:xy):xj->(xj->Prop)->Prop
 |[],q=>q []
 |t::W,q=>∃(N:T->Prop)(M:Prop),(∀y,N y->iH g c e o W λd=>q (y::d))/\(M->iH g c e o W q)/\g t o λa=>c a λb=>sw b (e a λy=>N (frz y)) M
def IQ:RT:=λ_ q=>q true
def h9(b:RI)(n:Nat)(g:zh)(c:RT)(e:RE):RE:=λo q=>b o λJ=>J.length<=sizeLine/\iH g c e (replicate n .und++o) J λa=>q (.l1 a)
def ownL2(n L:Nat)(own:Nat->Ψ)(A:Ψ):Nat->Ψ:=λi=>if i<n then[]else if i<n+L then own (i-n)else if i=n+L then A else own (i-n-1)
def Ow.ownL2{n L:Nat}{own:Nat->Ψ}{A:Ψ}{b:Addr} : Ow (ownL2 n L own A) b↔Ow own b\/b∈A:=by
 constructor
 .rintro⟨i,z⟩;unfold L2.ownL2 at z;by_cases d:i<n
  .rw[ZY d]at z;cases z
  rw[ZZ d]at z;by_cases c:i<n+L
  .rw[ZY c]at z;exact .inl ⟨_,z⟩
  rw[ZZ c]at z;by_cases a:i=n+L
  .rw[ZY a]at z;exact .inr z
  .rw[ZZ a]at z;exact .inl ⟨_,z⟩
 .rintro(⟨i,z⟩|z)
  .by_cases h:i<L
   .exact⟨n+i,by unfold L2.ownL2;rw[ZZ (JY (X9 _ _)),ZY (Nat.add_lt_add_left h _),show n+i-n=i by exact QU _ _];exact z⟩
   .exact⟨n+i+1,by unfold L2.ownL2;rw[ZZ wp,ZZ wp,ZZ wp,show n+i+1-n-1=i by lia];exact z⟩
  .exact⟨n+L,by unfold L2.ownL2;rw[ZZ (JY (X9 _ _)),ZZ (Wp _),ZY rfl];exact z⟩
def SR.blockL{o:xy}(h:SR K own H I o){A:Ψ}(E:z0 H Y)(r:∀a∈A,H a=none)(w:∀a∈A,∃ys,Y a=some (.lst ys))(c:L2.St):SR K (ownL2 c.length o.length own A) Y (c++I) (replicate c.length .und++o):=by
 have le:z0 (hd (Ow own) H) (hd (Ow (ownL2 c.length o.length own A)) Y):=jT (λb z=>(Ow.ownL2.mp z).imp id (r b)) E;have n:∀j,∀a∈A,a∉own j:=λj a g z=>(h.sole ⟨j,z⟩).ne (r a g);refine⟨by simp[h.len],λi x e=>?_,λi s a g=>?_,λi j a f d=>?_⟩
 .by_cases m:i<c.length
  .rw[aF (by simpa using m),X1,ZY m]at e;cases e;show ownL2 _ _ _ _ i=[];unfold ownL2;rw[ZY m]
  .rw[aD (by simpa using m),aN]at e;have y:i-c.length<o.length:=(ao.mp e).1;rw[aD (Nat.not_lt.mp m)];have:ownL2 c.length o.length own A i=own (i-c.length):=by unfold ownL2;rw[ZZ m,ZY (by omega)]
   rw[this];exact(h.sl _ x e).same le E
 .rw[aA,aN]at s;unfold ownL2 at g;rw[ZZ wp,ZZ (JY s)]at g;by_cases t:i=c.length+o.length
  .rw[ZY t]at g;exact w a g
  .rw[ZZ t]at g;obtain⟨J,e⟩:=h.out _ wp a g;exact⟨J,E _ _ e⟩
 .unfold ownL2 at f d;by_cases v:i<c.length
  .rw[ZY v]at f;cases f
  by_cases u:j<c.length
  .rw[ZY u]at d;cases d
  rw[ZZ v]at f;rw[ZZ u]at d;by_cases q:i<c.length+o.length<;>by_cases p:j<c.length+o.length
  .rw[ZY q]at f;rw[ZY p]at d;have:=h.dis _ _ a f d;omega
  .rw[ZY q]at f;rw[ZZ p]at d;by_cases k:j=c.length+o.length
   .rw[ZY k]at d;exact absurd f (n _ a d)
   .rw[ZZ k]at d;have:=h.dis _ _ a f d;omega
  .rw[ZZ q]at f;rw[ZY p]at d;by_cases l:i=c.length+o.length
   .rw[ZY l]at f;exact absurd d (n _ a f)
   .rw[ZZ l]at f;have:=h.dis _ _ a f d;lia
  .rw[ZZ q]at f;rw[ZZ p]at d;by_cases l:i=c.length+o.length<;>by_cases k:j=c.length+o.length
   .exact Eq.trans l (Eq.symm k)
   .rw[ZY l]at f;rw[ZZ k]at d;exact absurd d (n _ a f)
   .rw[ZZ l]at f;rw[ZY k]at d;exact absurd f (n _ a d)
   .rw[ZZ l]at f;rw[ZZ k]at d;have:=h.dis _ _ a f d;lia
def ownS(n L:Nat)(own:Nat->Ψ)(D:Addr):Nat->Ψ:=ownL2 n L own [D]
def Ow.ownS{n L:Nat}{own:Nat->Ψ}{D b:Addr} : Ow (ownS n L own D) b↔Ow own b\/b=D:=Ow.ownL2.trans (or_congr_right YR)
def SR.block{o:xy}(h:SR K own H I o)(E:z0 H Y)(c:H D=none)(d:Y D=some (.lst ys))(b:L2.St):SR K (ownS b.length o.length own D) Y (b++I) (replicate b.length .und++o):=h.blockL E (λa z=>YR.mp z ▸ c) (λa z=>YR.mp z ▸ ⟨_,d⟩) b
def Uy{e:Nat->Ψ}{b a:L2.St}(f:b.length=n)(g:Ip n own e (b++I) a):∃d:L2.St,d.length=n/\a=d++I:=by
 obtain⟨_,l,k⟩:=g;refine⟨a.take n,by rw[aY,l,aA];lia,?_⟩;refine List.ext_getElem? λi=>?_;by_cases c:i<n
 .rw[aF (by rw[aY,l,aA];lia),List.getElem?_take_of_lt c]
 .rw[aD (by rw[aY,l,aA];lia),k i (VS c),aD wp,aY,l,aA]
  congr 1
  lia
def Wx{o:xy}{c:It}{J:xj}(h1:SR K own Z I o)(wk:ie K c (hd (Ow own) Z) J)(lx:J.length<=sizeLine)(q:iH g rc re (replicate n .und++o) J λH=>R (.l1 H))(t:Z D=none)(k:∀Y v x,R x->z0 Z Y->NR K (Ow own) Z Y v x->Q v Y) :
  ∃a:Nat->Nat->Ζ->Hp->Prop,(∃m,a 0 m [] (upd Z D (.lst [])))/\∀i m ys d,a i m ys d ->
   (c.stop i d/\Q (.ref D) d)\/(c.go i d/\∀x Y,c.yld i d x Y->∀f:L2.St,f.length=n->gl (gb K n g) x (f++I) Y λp G=>∃F:L2.St,F.length=n/\p=F++I/\gj (tQT K rc) p G λb T =>
    match b with
    |true=>tM (tQ K re) p T λy P=>ys.length<sizeLine/\P D=some (.lst ys)/\∃w,w<m/\a (i+1) w (ys++[y]) (upd P D (.lst (ys++[y])))
    |false=>∃w,w<m/\a (i+1) w ys T):=by
 generalize hO:replicate n OT.und++o=L at q;refine⟨λi m ys d=>∃W,d D=some (.lst ys)/\z0 Z d/\bV K (hd (λb=>Ow own b\/b=D) d) ys W/\ys.length<=i/\i<=J.length/\m=J.length-i/\iH g rc re L (J.drop i) λH=>R (.l1 (W++H)),⟨_,[],cF,z0.upd t,.nil,aG _,aZ _,rfl,q⟩,?_⟩;rintro i m ys d ⟨W,B,s,C,X,ix,rfl,h⟩;have hn:∀b,Ow own b\/b=D->d b≠none:=λb z=>z.elim (λz=>((h1.same s).sole z).ne) λe z=>by rw[e,B]at z;cases z
 have SD:z0 (hd (Ow own) Z) (hd (λb=>Ow own b\/b=D) d):=jT (λb z=>z.imp id λ(e:b=D)=>e ▸ t) s;obtain⟨w1,w2⟩:=wk (λb=>Ow own b\/b=D) d i hn SD;by_cases A:i<J.length
 .right;obtain⟨go,yl⟩:=w2 _ (aj A);rw[ka A]at h;obtain⟨N,M,hN,hM,h⟩:=h;refine⟨go,λx G y f hp=>?_⟩;obtain⟨l,V⟩:=yl x G y;have O:(λb=>Ow own b\/b=D)=Ow (ownS n o.length own D):=funext λb=>propext Ow.ownS.symm;have hb:SR K (ownS n o.length own D) G (f++I) L:=by
   have:=h1.block (s.trans l) t (l _ _ B) f;rw[hp,hO]at this;exact this
  rw[O]at V C;refine⟨_,⟨ownS n o.length own D,L,_,_,hb,V,h,λfS σ3 o3 q3 i5 h3=>?_⟩,λ_ _ z=>z⟩;obtain⟨F,dA,rfl⟩:=Uy hp i5;have e3:fS=ownS n o.length own D:=funext λj=>by
   rcases i5.1 j with e|⟨e1,e2⟩
   .exact e
   .rw[e2];exact(ZY e1).symm
  subst e3;refine⟨F,dA,rfl,_,tQT.mk h3 q3 λT b E r=>?_,λ_ _ z=>z⟩;have E:sw b (re o3 λy=>N (frz y)) M:=E;cases b with
  |false=>exact⟨J.length-(i+1),by lia,W,r _ _ (l _ _ B),s.trans (l.trans r),by rw[O];exact C.same (bU (l.trans r)),by exact aL X (X9 _ _),by exact A,rfl,hM E⟩
  |true =>
   refine⟨_,tQ.mk (h3.same r) E λP v y q5 U r4=>⟨by lia,U _ _ (r _ _ (l _ _ B)),J.length-(i+1),by lia,W++[frz y],cF,λb u e=>?_,?_,by rw[aA,length_singleton];exact succ_le_succ X,by exact A,rfl,?_⟩,λ_ _ z=>z⟩
   .rw[cA λz=>by rw[z,t]at e;cases e];exact U _ _ (r _ _ (l _ _ (s _ _ e)))
   .rw[Hv (S:=λb=>Ow own b\/b=D) (.inr rfl),O];exact(C.same (bU (l.trans (r.trans U)))).app (.cons r4 .nil)
   .have:=hN _ q5;simp only[WV,List.singleton_append];exact this
 .left;have:i=J.length:=by lia
  refine⟨w1 this,?_⟩;rw[JS (VS A)]at h;have h:R (.l1 (W++[])):=h;rw[append_nil]at h;exact k d _ _ h s (NR.l1 t B C)
def M_(h:tQ K (h9 ri n g rc re) I H Q):uI (io K ri) n (gl (gb K n g)) (gj (tQT K rc)) (tM (tQ K re)) I H Q:=by
 obtain⟨own,o,R,h,f,k⟩:=h;exact⟨own,o,_,h,f,λZ a J q b c D e=>Wx (h.same b) c q.1 q.2 e λY v x d E n=>k Y v x d (b.trans E) (n.back b)⟩
def gE(X:Cx)(aS:xw)(r:RT):Prop:=PTs X aS (tQT X.K r)
def cC:gE X [] IQ:=λU s I H Q a c=>by obtain⟨own,o,R,h,b,k⟩:=c;exact UA U s I H Q a (k H true b (.refl _))
def Zr(h:QT X c rc):gE X [c] rc:=XI h
def c7(i:Scope)(a f J:Φ)(m:QI X tg iter ri)(n:∀{C b c e d},QG (X.compG f O J C b c e d) J.length tg g)(j:∀{C b c e d},gE (X.compG f O J C b c e d) aS rc)(o:∀{C b c e d},QE (X.compG f O J C b c e d) be re)
 (r:X.env.scope=i:=by rfl)(q:X.N=a:=by rfl)(p:X.calm:=by rfl)(l:O.kind=.function:=by rfl)(h:CK i O a f J:=by decide +kernel)(k:zg X iter:=by intro _;rfl):QE X (.ListComp be [⟨tg,iter,aS,0⟩] O N) (h9 ri J.length g rc re) :=
 (D0 (gt:=gb X.K J.length g) (tc:=tQT X.K rc) (te:=tQ X.K re) i a f J m n j o r q p l h k).imp λ_ _ _=>M_
def ya{X:Cx}{tg iter be:Expr}{aS:List Expr}{ri:RI}{g:zh}{rc:RT}{re:RE}{O:Scope}{N:Pos}(Z:RI->Nat->zh->RT->RE->RE)(t:∀{K I H Q ri n g rc re},tQ K (Z ri n g rc re) I H Q->uI (io K ri) n (gl (gb K n g)) (gj (tQT K rc)) (tM (tQ K re)) I H Q)(k:Scope)(a j:Φ)(d:Str)(p:QI X tg iter ri)(q:∀{C b c f e},QG (X.compGC j O d C b c f e) 1 tg g)(l:∀{C b c f e},gE (X.compGC j O d C b c f e) aS rc)(r:∀{C b c f e},QE (X.compGC j O d C b c f e) be re)
 (x:X.env.scope=k:=by rfl)(w:X.N=a:=by rfl)(s:X.calm:=by rfl)(o:O.kind=.function:=by rfl)(v:∀n i,cellsFrom n O.names i=(d,n)::i:=by intro _ _;rfl)(u:∀h,pushCells h O.names=h.push { cls:=.type "cell",data:=.cell none }:=by intro _;rfl)(h:(∀y∈O.names,y.2=.cell->y.1=d)/\FM k O a j [d]:=by decide +kernel)(m:zg X iter:=by intro _;rfl):QE X (.ListComp be [⟨tg,iter,aS,0⟩] O N) (Z ri 1 g rc re):=PE.imp (by subst x w;exact Wy (ext1 v u h.1) s h.2.1 o h.2.2.1 h.2.2.2.1 h.2.2.2.2.1 h.2.2.2.2.2 p (λ_ _ _ _ _=>q.mono) (λ_ _ _ _ _=>l.mono) (λ_ _ _ _ _=>r.mono) m) λ_ _ _=>t
def WE:=@ya X tg iter be aS ri g rc re O N h9 M_
def Zi{f:Φ}{e:Str}{d:Scope}{m:Addr}{i:Shared}{l:Hp}{j:Ψ}{k:Δ}(q:Scope)(a p J:Φ)(u:QI (X.compGC f d e m i l j k) tg iter ri)(v:∀{C b c o n},QG ((X.compGC f d e m i l j k).compG p O J C b c o n) J.length tg g)(r:∀{C b c o n},gE ((X.compGC f d e m i l j k).compG p O J C b c o n) aS rc)(w:∀{C b c o n},QE ((X.compGC f d e m i l j k).compG p O J C b c o n) be re)
 (A:X.env.scope=q:=by rfl)(y : [e]++f=a:=by rfl)(x:X.calm:=by rfl)(t:O.kind=.function:=by rfl)(h:CK (qf q d) O a p J:=by decide +kernel)(s:∀z,foldedSetIterable iter (X.compGC f d e m i l j k).env z=pure z:=by intro _;rfl):QE (X.compGC f d e m i l j k) (.ListComp be [⟨tg,iter,aS,0⟩] O N) (h9 ri J.length g rc re):=by
 subst A y;exact c7 (X:=X.compGC f d e m i l j k) (qf X.env.scope d) _ p J u v r w rfl rfl x t h s
def ye{X:Cx}{tg iter be:Expr}{aS:List Expr}{ri:RI}{g:zh}{rc:RT}{re:RE}{O:Scope}{N:Pos}{i0:Nat}{y0:Str}{i l:Pos}(Z:Nat->RI->Nat->zh->RT->RE->RS)(t:∀{X i0 ri n g rc re D I H},f_ X (Z i0 ri n g rc re) D I H->lv (uI (io X.K ri) n (gl (gb X.K n g)) (gj (tQT X.K rc)) (tM (tQ X.K re))) (Df i0) D I H)(j:Scope)(a f J:Φ)(p:QI X tg iter ri)(q:∀{C b c e d},QG (X.compG f O J C b c e d) J.length tg g)(m:∀{C b c e d},gE (X.compG f O J C b c e d) aS rc)(r:∀{C b c e d},QE (X.compG f O J C b c e d) be re)(u:PG X (.Name y0 i) (Df i0))
 (x:X.env.scope=j:=by rfl)(w:X.N=a:=by rfl)(s:X.calm:=by rfl)(k:O.kind=.function:=by rfl)(h:CK j O a f J:=by decide +kernel)(v:swapsWith (.ListComp be [⟨tg,iter,aS,0⟩] O N) (some (.Name y0 i)) l.line X.env=pure true:=by rfl)(o:zg X iter:=by intro _;rfl):QS X (.Assign [.Name y0 i] (.ListComp be [⟨tg,iter,aS,0⟩] O N) l) (Z i0 ri J.length g rc re):=PS.imp (by subst x w;exact _W (uA k h.1) s h.2.1 k h.2.2.1 h.2.2.2.1 h.2.2.2.2.1 h.2.2.2.2.2 p (λ_ _ _ _ _=>q.mono) (λ_ _ _ _ _=>m.mono) (λ_ _ _ _ _=>r.mono) u v o) λ_ _ _=>t
def N0{a f:Pos}:=@ye X tg iter be aS ri g rc re O N i0 y0 a f (λi r n g c e=>n' i (h9 r n g c e)) λ{_ i0 _ _ _ _ _ _ _ _}⟨own,o,E,h,b,L⟩=>M_ ⟨own,o,_,h,b,λY v y q S n=>by
 obtain⟨j,d,k⟩:=h.putA S n i0;exact L.nx j Y _ _ q k d⟩
def d_{c J:Φ}{C a b e d}{i:Nat}{x:Str}(k:(J++c).Nodup:=by decide +kernel)(h:(J++c)[i]?=some x:=by rfl)(g:i<n:=by decide)(f:fA (X.compG c O J C a b e d).env.scope x:=by exact Or.inl rfl)(j:(X.compG c O J C a b e d).fn x\/(X.compG c O J C a b e d).env.scope.names.lookup x=some .local:=by exact Or.inr rfl):QG (X.compG c O J C a b e d) n (.Name x p) (hName i):=cB (i:=i) (hN:=k) (hx:=f) (hi:=h) (hn:=g) (hf:=j)
def C5{d:Φ}{c:Str}{C a b h e}(g:([c]++d).Nodup:=by decide +kernel)(f:fA (X.compGC d O c C a b h e).env.scope c:=by exact Or.inr rfl):QG (X.compGC d O c C a b h e) 1 (.Name c p) (hName 0)   := cB (i:=0) (hN:=g) (hx:=f) (hi:=rfl) (hn:=wf) (hf:=(.inl (beq_self_eq_true _)))
def aaG{c:RT}{e:RE}{o:xy}{q:xj->Prop}(h:g t o λd=>c d λb=>sw b (e d λy=>iH g c e o W λa=>q (frz y::a)) (iH g c e o W q)):iH g c e o (t::W) q:=⟨λy=>iH g c e o W λa=>q (y::a),_,λ_ h=>h,id,h⟩
section
variable{X:Cx}{a b e:Expr}{ra rb re:RE}{rt:RT}{N:Pos}
theorem bV.reps{K:Frag}{F:Hp}{J:Ζ}{W:xj}(h:bV K F J W):∀n:Nat,bV K F (replicate n J).flatten (replicate n W).flatten
 |0=>.nil
 |n+1=>by rw[replicate_succ,replicate_succ,flatten_cons,flatten_cons];exact h.app (bV.reps h n)
def cQ:GO X (binaryOp .Mult) IG:=λU s I H x y v u Q b g f h=>by
 obtain⟨S,t,w,R,_,i,A,d,k⟩:=h;cases w with
 |int j=>?_
 |_=>cases t<;>exact d.elim
 cases A;cases t<;>try exact d.elim
 .cases i;exact _3 U s I H _ _ v u Q b g f ⟨_,_,rfl,rfl,d.1,k H _ _ d.2 (.refl _) (NR.fz (.int _))⟩
 .cases i;obtain⟨c,rfl,n,m,q⟩:=d;exact TL U s I H _ _ v u Q b g f ⟨c,j,rfl,rfl,n,m,λz o=>k H _ _ (q z o) (.refl _) (NR.fz (.str _))⟩
 .obtain⟨p,J,rfl,e,r⟩:=i.lstI;obtain⟨⟨n,m,B⟩,q⟩:=d;exact OW U s I H _ _ v u Q b g f ⟨p,j,J,rfl,rfl,(cW e).2,n,m,by rw[r.len];exact B,λa l=>k _ _ _ (q _ rfl) (z0.upd l) (Dm (r.reps j.toNat) (z0.upd l) l cF)⟩
mutual
def hY:PyData->T
 |.none=>.non
 |.bool b=>.bl b
 |.int i=>.int i
 |.str s=>.str s
 |.list a=>.lst (j3 a)
 |.tuple a=>.tup (j3 a)
 |.dict _=>.any
def j3:xa->xj
 |[]=>[]
 |d::a=>hY d::j3 a
end
mutual
theorem Rep.shows{K:Frag}{F:Hp} : ∀{x:V}{t:T},Rep K F x t->∀d,t=hY d->d.canLay0=true->iU K F x d
 |_,_,.any v,d,e,s=>by cases d<;>cases e;cases s
 |_,_,.non,d,e,_=>by cases d<;>cases e;exact .non
 |_,_,.bl b,d,e,_=>by cases d<;>cases e;exact .bl _
 |_,_,.int i,d,e,_=>by cases d<;>cases e;exact .int _
 |_,_,.str s,d,e,_=>by cases d<;>cases e;exact .str _
 |_,_,.val v,d,e,_=>by cases d<;>cases e
 |_,_,.tup q h,d,e,s=>by
  cases d<;>cases e;exact .tup q (bV.shows h _ rfl s)
 |_,_,.lst q h,d,e,s=>by
  cases d<;>cases e;exact .lst q (bV.shows h _ rfl s)
 |_,_,.scr q h,d,e,_=>by cases d<;>cases e
 |_,_,.dct q l h,d,e,_=>by cases d<;>cases e
 |_,_,.ins q a l h,d,e,_=>by cases d<;>cases e
 |_,_,.exc q a l h,d,e,_=>by cases d<;>cases e
theorem bV.shows{K:Frag}{F:Hp} : ∀{J:Ζ}{W:xj},bV K F J W->∀c,W=j3 c->PyData.canLayAll0 c=true->fM K F J c
 |_,_,.nil,c,e,_=>by cases c<;>cases e;exact .nil
 |_,_,.cons a b,c,e,s=>by
  cases c<;>cases e;obtain⟨f,d⟩:=Bool.and_eq_true_iff.mp s;exact .cons (Rep.shows a _ rfl f) (bV.shows b _ rfl d)
end
def xr:Bool->Bool->Bool
 |false,b=>b
 |true,b=>!b
def k9:T->T->Option Bool
 |.int i,.int j=>some (decide (i=j))
 |.str i,.str j=>some (decide (i=j))
 |.bl i,.bl j=>some (decide (i=j))
 |.non,.non=>some true
 |.non,.int _=>some false
 |.int _,.non=>some false
 |.non,.str _=>some false
 |.str _,.non=>some false
 |.int _,.str _=>some false
 |.str _,.int _=>some false
 |.tup [.int a,.int b],.tup [.int c,.int d]=>some (decide (a=c)&&decide (b=d))
 |_,_=>none
def gEq(a:Bool)(t u:T)(q:OT->Prop):Prop:=match k9 t u with
 |some b=>q (.fz (.bl (xr a b)))
 |none=>∃d e,t=hY d/\u=hY e/\SeqAt.shaped d/\SeqAt.shaped e/\q (.fz (.bl (xr a (PyData.eqv d e))))
def De(a b c d:Int):PyData.eqv (.tuple [.int a,.int b]) (.tuple [.int c,.int d])=(decide (a=c)&&decide (b=d)):=by
 simp only[PyData.eqv,PyData.eqvAll,Bool.and_true]
 rfl
def sv:T->xD
 |.non=>some .non
 |.bl b=>some (.bl b)
 |.int i=>some (.int i)
 |.str s=>some (.str s)
 |_=>none
def Rep.sca{F:Hp}{x:V}(h:Rep K F x t)(e:sv t=some v):x=v:=by cases h<;>cases e<;>rfl
def EqC(t u:T)(b:Bool):Prop:=(∃v w,sv t=some v/\sv u=some w/\jl v w/\decide (v=w)=b)\/∃i j k l,t=.tup [.int i,.int j]/\u=.tup [.int k,.int l]/\(decide (i=k)&&decide (j=l))=b
def RU{u:T}{b:Bool}(e:k9 t u=some b):EqC t u b:=by
  cases t with
  |tup t=>
   iterate 2
    obtain _|⟨r,t⟩:=t
    .cases e
    cases r<;>try (cases e;done)
   cases t with|cons=>cases e|nil=>
    cases u<;>try (cases e;done)
    rename_i u;iterate 2
     obtain _|⟨r,u⟩:=u
     .cases e
     cases r<;>try (cases e;done)
    cases u<;>cases e;exact .inr ⟨_,_,_,_,rfl,rfl,rfl⟩
  |_=>first|(cases e;done)|(cases u<;>cases e<;>exact .inl ⟨_,_,rfl,rfl,rfl,by simp⟩)
def SH{F:Hp}{x y:V}{u:T}{b:Bool}(S:z0 F H)(c:Rep K F x t)(a:Rep K F y u)(e:k9 t u=some b):(jl x y=true/\decide (x=y)=b)\/∃d e,iU K H x d/\iU K H y e/\SeqAt.shaped d/\SeqAt.shaped e/\PyData.eqv d e=b:=by
 rcases RU e with⟨_,_,p,q,r⟩|⟨_,_,_,_,rfl,rfl,r⟩
 .cases c.sca p;cases a.sca q;exact .inl r
 exact .inr ⟨.tuple [.int _,.int _],.tuple [.int _,.int _],(c.shows _ rfl rfl).same S,(a.shows _ rfl rfl).same S,rfl,rfl,(De _ _ _ _).trans r⟩
def D'(g:Bool)(C:OpR X (compareOp op) λx y H Q=>jl x y=true/\Q (.bl (xr g (decide (x=y)))) H)(z:OpR X (compareOp op) (n7 X.K g)):GO X (compareOp op) (gEq g):=λU s I H x y v u Q f n m h=>by
 obtain⟨S,t,w,R,_,r,p,i,k⟩:=h;have o:∀b:Bool,(if g then !b else b)=xr g b:=λb=>by cases g<;>rfl
 unfold gEq at i;cases es:k9 t w with
 |some b =>
  rw[es]at i;rcases SH dW r p es with⟨a,c⟩|⟨d,e,l,j,B,A,c⟩
  .exact C U s I H x y v u Q f n m ⟨a,by rw[c];exact k H _ _ i (.refl _) (NR.fz (.bl _))⟩
  .exact z U s I H x y v u Q f n m ⟨d,e,l,j,B,A,by rw[o,c];exact k H _ _ i (.refl _) (NR.fz (.bl _))⟩
 |none =>
  rw[es]at i;obtain⟨d,e,E,D,l,j,q⟩:=i;exact z U s I H x y v u Q f n m ⟨d,e,(r.shows d E (Bool.and_eq_true_iff.mp l).1).same dW,(p.shows e D (Bool.and_eq_true_iff.mp j).1).same dW,l,j,by rw[o];exact k H _ _ q (.refl _) (NR.fz (.bl _))⟩
def yA(a:X.A.units+64<cLine):GO X (compareOp .Eq) (gEq false):=D' false MX (Pd a)
def qG(a:X.A.units+64<cLine):GO X (compareOp .NotEq) (gEq true):=D' true L6 (OU a)
def flat:OT->Prop
 |.fz (.int _)=>True
 |.fz (.bl _)=>True
 |.fz (.str _)=>True
 |.fz .non=>True
 |_=>False
def K'(i:Nat)(a:RE):RE:=λo q=>match slot o i with|.und=>False|x=>a (o.set i (.fz (frz x))) λy=>flat y/\q y
def MV(i:Nat)(a:RT):RT:=λo q=>match slot o i with|.und=>False|x=>a (o.set i (.fz (frz x))) q
def Fa{i:Nat}{o:xy}{P:OT->Prop}(h:match slot o i with|.und=>False|x=>P x):P (slot o i)/\slot o i≠.und:=by
 cases e:slot o i<;>rw[e]at h<;>first|exact h.elim|exact⟨h,λz=>by cases z⟩
def Lw(i:Nat)(h:QE X e re):QE X e (K' i re):=PE.imp h λI H Q j=>by
 obtain⟨own,o,R,h,a,k⟩:=j;obtain⟨a,c⟩:=Fa (P:=λx=>re (o.set i (.fz (frz x))) λy=>flat y/\R y) a;obtain⟨u,l,s⟩:=h.val rfl c;obtain⟨m,d,S⟩:=h.frz (iQ rfl c) l;refine⟨m,_,_,d,a,λY v x q E n=>k Y v x q.2 E ?_⟩;have f:=q.1;have g:=n.rep λb z=>(d.sole z).ne;cases x with
 |fz t=>cases t<;>first|exact f.elim|(cases g;first|exact NR.fz (.int _)|exact NR.fz (.bl _)|exact NR.fz (.str _)|exact NR.fz .non)
 |_=>exact f.elim
def Xi(i:Nat)(h:QT X e rt):QT X e (MV i rt):=PT.imp h λI H Q c=>by
 obtain⟨own,o,R,h,a,k⟩:=c;obtain⟨a,b⟩:=Fa (P:=λx=>rt (o.set i (.fz (frz x))) R) a;obtain⟨u,f,s⟩:=h.val rfl b;obtain⟨g,d,S⟩:=h.frz (iQ rfl b) f;exact⟨g,_,_,d,a,k⟩
def h7:T->Option bX
 |.int i=>some (.inl i)
 |.str s=>some (.inr s)
 |_=>none
def rP{α:Type} : xi->List α->bX->Option α
 |k::ks,t::W,j=>if k=j then some t else rP ks W j
 |_,_,_=>none
def Sy{F:Hp}{x:V}{k:bX}(h:Rep K F x t)(e:h7 t=some k):x=kV k:=by
 cases h<;>cases e<;>rfl
theorem Ia{K:Frag}{F:Hp}{k:bX} : ∀{ks:xi}{J:Ζ}{W:xj},bV K F J W->(∀t,rP ks W k=some t->∃x,Kp (ks.zip J) k=some x/\Rep K F x t)/\(rP ks W k=none->Kp (ks.zip J) k=none)
 |[],_,_,_=>⟨λ_ z=>(nomatch z),λ_=>rfl⟩
 |_::_,_,_,.nil=>⟨λ_ z=>(nomatch z),λ_=>rfl⟩
 |j::ks,_,_,.cons a b=>by
  by_cases h:j=k
  .refine⟨λt z=>?_,λz=>?_⟩
   .unfold rP at z;rw[ZY h]at z;cases z;exact⟨_,Vp h,a⟩
   .unfold rP at z;rw[ZY h]at z;cases z
  .obtain⟨d,c⟩:=Ia (k:=k) (ks:=ks) b;refine⟨λt z=>?_,λz=>?_⟩
   .unfold rP at z;rw[ZZ h]at z;obtain⟨x,e,r⟩:=d t z;exact⟨x,(Ku h).trans e,r⟩
   .unfold rP at z;rw[ZZ h]at z;exact(Ku h).trans (c z)
def MW:zn
 |.dct ks W,u,q=>∃k t,h7 u=some k/\rP ks W k=some t/\q (.fz t)
 |_,_,_=>False
def RD(n:X.A.units+1<cLine)(B:QE X a ra)(u:QE X b rb)(p:ow b:=by exact λ_ _=>rfl):QE X (.Subscript a b N) (fF MW ra rb):=(WI n B u p).imp λI H Q ⟨own,o,R,h,s,k⟩=>tQ.mk h s λZ v x q g c=>tQ.mk (h.same g) q λF w y q f m=>by
 have c:=c.same (bU f)
 revert c q
 generalize frz x=t;intro q c;cases t<;>try exact q.elim
 obtain⟨d,J,rfl,e,l,r⟩:=c.dctI;obtain⟨j,t,E,D,q⟩:=q;obtain⟨z,C,i⟩:=(Ia r).1 t D;cases Sy m E;exact⟨d,z,rfl,.inl ⟨_,_,dW.rd e,rfl,C.symm⟩,k F _ _ q (g.trans f) (NR.fz i)⟩
def om(a:Bool):zn
 |u,.dct ks W,q=>∃k,h7 u=some k/\q (.fz (.bl (xr a (rP ks W k).isSome)))
 |_,_,_=>False
def DM{neg:Bool}(h:tQ X.K (fF (om neg) ra rb) I H Q):(tQ X.K ra) I H λy Z=>(tQ X.K rb) I Z λx b=>∃a o,x=.ref a/\HW b a y o/\Q (.bl (xr neg o.isSome)) b:=by
 obtain⟨own,o,R,h,m,k⟩:=h;refine tQ.mk h m λZ v x q i f=>tQ.mk (h.same i) q λb w y q g c=>?_;have f:=f.same (bU g)
 revert c q
 generalize frz y=t;intro q c;cases t with
 |dct ks W =>
  obtain⟨d,J,rfl,e,l,r⟩:=c.dctI;obtain⟨j,n,q⟩:=q;cases Sy f n;refine⟨d,_,rfl,.inl ⟨_,_,dW.rd e,rfl,rfl⟩,?_⟩;have:(Kp (ks.zip J) j).isSome=(rP ks W j).isSome:=by
   cases z:rP ks W j with
   |none=>rw[(Ia r).2 z];rfl
   |some t=>obtain⟨x,e,_⟩:=(Ia r).1 t z;rw[e];rfl
  rw[this];exact k b _ _ q (i.trans g) (NR.fz (.bl _))
 |_=>cases frz x<;>exact q.elim
def C'{r:RE}{b:TE}(i:∀I H Q,tQ X.K r I H Q->b I H Q){Q:Bool->Hp->Prop}(h:tQT X.K (rB r) I H Q):tB b I H Q:=by
 obtain⟨own,o,R,h,c,k⟩:=h;refine i I H _ (tQ.mk h c λZ v x q d a=>?_)
 revert a q
 generalize frz x=t;intro q a;cases a<;>try exact q.elim
 exact⟨_,rfl,k _ _ q d⟩
def EG(c:X.A.units+1<cLine)(e:QE X a ra)(d:QE X b rb)(f:behindInMarks .In b=false:=by rfl):QT X (.Compare a [.In] [b] N) (rB (fF (om false) ra rb)):=(D6 (PN c e d) f).imp λ_ _ _=>C' λ_ _ _=>DM (neg:=false)
def abn(c:X.A.units+1<cLine)(e:QE X a ra)(d:QE X b rb)(f:behindInMarks .NotIn b=false:=by rfl):QT X (.Compare a [.NotIn] [b] N) (rB (fF (om true) ra rb)):=(D6 (aaD c e d) f).imp λ_ _ _=>C' λ_ _ _=>DM (neg:=true)
def NA:RE:=λ_ q=>q (.d1 [] [])
def QB:QE X (.Dict [] [] N) NA:=acf.imp λI H Q ⟨own,o,R,h,c,k⟩ p b=>k _ _ _ c (z0.upd b) ⟨[p],λa d=>(YR.mp d) ▸ b,p,[],rfl,rfl,cF,rfl,.nil⟩
def aqj(i:Nat)(a b:RE):RS:=λE o=>match slot o i with|.d1 ks W=>a o λy=>b o λk=>∃j,h7 (frz k)=some j/\rP ks W j=none/\ks.length<sizeLine/\ks.length=W.length/\E.nx (o.set i (.d1 (ks++[j]) (W++[frz y])))|_=>False
end
def gd{α:Type} : Φ->List α->Str->Option α
 |k::ks,t::W,f=>if k=f then some t else gd ks W f
 |_,_,_=>none
def M4:Φ->Str->Φ
 |[],f=>[f]
 |k::ks,f=>if k=f then k::ks else k::M4 ks f
def CV{α:Type} : Φ->List α->Str->α->List α
 |k::ks,t::W,f,v=>if k=f then v::W else t::CV ks W f v
 |_,W,_,v=>W++[v]
theorem pa{K:Frag}{F:Hp}{f:Str} : ∀{ks:Φ}{J:Ζ}{W:xj},bV K F J W->(∀t,gd ks W f=some t->∃x,(ks.zip J).lookup f=some x/\Rep K F x t)/\(gd ks W f=none->(ks.zip J).lookup f=none)
 |[],_,_,_=>⟨λ_ z=>(nomatch z),λ_=>rfl⟩
 |_::_,_,_,.nil=>⟨λ_ z=>(nomatch z),λ_=>rfl⟩
 |j::ks,_,_,.cons a b=>by
  obtain⟨d,c⟩:=pa (f:=f) (ks:=ks) b;by_cases h:j=f
  .refine⟨λt z=>?_,λz=>?_⟩
   .unfold gd at z;rw[ZY h]at z;cases z;exact⟨_,by rw[zip_cons_cons,lookup_cons,h,beq_self_eq_true],a⟩
   .unfold gd at z;rw[ZY h]at z;cases z
  .have e:∀x(r:xn),((j,x)::r).lookup f=r.lookup f:=λx r=>by rw[lookup_cons,beq_false_of_ne (Ne.symm h)]
   refine⟨λt z=>?_,λz=>?_⟩
   .unfold gd at z;rw[ZZ h]at z;obtain⟨x,g,r⟩:=d t z;exact⟨x,(e _ _).trans g,r⟩
   .unfold gd at z;rw[ZZ h]at z;exact(e _ _).trans (c z)
theorem Vu{f:Str}{v:V} : ∀{ks:Φ}{J:Ζ},ks.length=J.length->xX f v (ks.zip J)=(M4 ks f).zip (CV ks J f v)/\(M4 ks f).length=(CV ks J f v).length
 |[],[],_=>⟨rfl,rfl⟩
 |k::ks,x::J,l=>by
  obtain⟨b,a⟩:=Vu (f:=f) (v:=v) (ks:=ks) (J:=J) (Nat.succ.inj l);show(if k=f then(k,v)::ks.zip J else(k,x)::xX f v (ks.zip J))=_/\_;unfold M4 CV;by_cases h:k=f
  .rw[ZY h,ZY h,ZY h];exact⟨rfl,l⟩
  .rw[ZZ h,ZZ h,ZZ h,b];exact⟨rfl,ZH (· + 1) a⟩
 |[],_::_,l=>by cases l
 |_::_,[],l=>by cases l
theorem bV.put{K:Frag}{F:Hp}{f:Str}{v:V}{t:T}(r:Rep K F v t):∀{ks:Φ}{J:Ζ}{W:xj},bV K F J W->bV K F (CV ks J f v) (CV ks W f t)
 |[],_,_,h=>h.app (.cons r .nil)
 |_::_,_,_,.nil=>.cons r .nil
 |k::ks,_,_,.cons a b=>by
  unfold CV;by_cases h:k=f
  .rw[ZY h,ZY h];exact .cons r b
  .rw[ZZ h,ZZ h];exact .cons a (bV.put r b)
abbrev SI:=Addr->Φ->xj->xj->(Φ->xj->Prop)->Prop
def cw(a c b:Addr):Prop:=b=a\/b=c
def di(K:Frag)(S:SI):Sp:=λg H Q _=>∃a b C ks J W e as R,g=.ref a::e/\H a=some (.ins C b (ks.zip J))/\H b=some (.own a)/\ks.length=J.length/\bV K (hd (cw a b) H) J W/\bV K (hd (cw a b) H) e as/\S C ks W as R /\
 ∀Y d c f,R d f->z0 (hd (cw a b) H) (hd (cw a b) Y)->Y a=some (.ins C b (d.zip c))->Y b=some (.own a)->d.length=c.length->bV K (hd (cw a b) Y) c f->Q .non Y
def startI(n:Nat)(a b C:Addr)(ks:Φ)(W as:xj):xy:=.ob a b C ks W::start' (n-1) as
def BG(a b:Addr):Nat->Ψ
 |0=>[a,b]
 |_+1=>[]
def Z5(a c:Addr):Ow (BG a c)=cw a c:=funext λb=>propext ⟨(λh=>by
  obtain⟨i,z⟩:=h;cases i with
  |zero =>
   rcases YU.mp z with z|z
   .exact .inl z
   .exact .inr (YR.mp z)
  |succ i=>cases z),λz=>⟨0,by show b∈[a,c];rcases z with rfl|rfl<;>simp⟩⟩
def SR.startI{H:Hp}{a d C:Addr}{ks:Φ}{J:Ζ}{W as:xj}{f:Ζ}(o:H a=some (.ins C d (ks.zip J)))(s:H d=some (.own a))(l:ks.length=J.length)(r:bV K (hd (cw a d) H) J W)(g:bV K (hd (cw a d) H) f as)(N:Φ)(t:f.length+1<=N.length) :
  SR K (BG a d) H (L2.start N (.ref a::f)) (L2.startI N.length a d C ks W as):=by
 have p:=Z5 a d;refine⟨?_,λi x e=>?_,λi c b n=>?_,λi j b h q=>?_⟩
 .unfold L2.startI start' L2.start;have:=g.len;simp only[length_cons,aA,ak,aN];lia
 .rw[p];unfold L2.startI at e;cases i with
  |zero =>
   cases e;exact⟨J,rfl,rfl,o,s,l,r⟩
  |succ i =>
   rw[List.getElem?_cons_succ]at e;show Slo K _ _ _ [] x;unfold start' at e;unfold L2.start;rw[map_cons,cons_append,List.getElem?_cons_succ];by_cases c:i<as.length
   .rw[aF (by simpa using c),aq,aj c]at e;cases e;obtain⟨v,h,m⟩:=g.at_ (aj c);rw[aF (by rwa[ak,g.len]),aq,h];exact⟨rfl,v,rfl,m⟩
   .rw[aD (by simpa using c),ak,X1]at e;by_cases k:i-as.length<N.length-1-as.length
    .rw[ZY k]at e;cases e;rfl
    .rw[ZZ k]at e;cases e
 .unfold L2.startI at c;cases i with
  |zero=>cases c
  |succ i=>cases n
 .cases i with
  |zero =>
   cases j with
   |zero=>rfl
   |succ j=>cases q
  |succ i=>cases h
def Fun.okI{x:Str}{N:Φ}{S:SI}(F:Fun K x qual st f fd)(t:bK N ps (bG st))(e:∀C ks W as R,S C ks W as R->as.length+1=ps.length)(hn:ps.length<=N.length)
 (bg:∀(n:Value)(A:Around)(c:xt)(s:Shared)(H:Hp)(E:XK),dY k (A.deeper (envOfC qual (bG st) s.zs f n))->N.Nodup ->
   ∃r,e_ (Ls ab P w K mg base N qual (bG st) f n A c s H E).nox (dZ st) r/\∀a d C ks W as R,S C ks W as R->r { nx:=λo=>∃m j,slot o 0=.ob a d C m j/\R m j,rt:=λ_=>False } (startI N.length a d C ks W as)):bW P w K mg base ab (k+1) f fd ps (di K S):=by
 refine F.ok t (λv H Q E h=>?_) λn A c s H v Q E D h=>?_
 .obtain⟨a,d,C,ks,J,W,y,as,R,rfl,_,_,_,_,g,i,_⟩:=h;rw[length_cons,g.len];exact e _ _ _ _ _ i
 .obtain⟨a,d,C,ks,J,W,y,as,R,rfl,G,b8,l,r,g,i,q⟩:=h;obtain⟨rd,M,L⟩:=bg n A c s H E D t.nd;have B:=SR.startI G b8 l r g N (by rwa[g.len,e _ _ _ _ _ i]);have T:=Z5 a d;refine⟨_,M,_,_,_,B,L a d C ks W as R i,⟨λown Y I o p E h=>?_,λ_ _ _ _ _ z=>z.elim,λ_ _ _ _ z=>z.elim,λ_ _ _ _ z=>z.elim,λ_ _ _ _ _ _ z=>z.elim⟩⟩;obtain⟨m,j,es,p⟩:=p;rw[T]at E;obtain⟨u,_,O,e1,e2,Z,X,V,U⟩:=h.val es (by intro z;cases z);have sub:z0 (hd (Ow own) Y) (hd (cw a d) Y):=jT (λb z=>.inl ⟨0,by rw[e2];rcases z with rfl|rfl<;>simp⟩) λ_ _ z=>z;exact q Y m O j p (E.trans sub) Z X V (U.same sub)
section
variable{X:Cx}{e:Expr}{es:xw}{re:RE}{r:RA}{f:Str}{N ai p:Pos}{Fm:Addr->Prop}
def CO(Fm:Addr->Prop)(i:Nat)(f:Str):RE:=λo q=>match slot o i with|.ob _ _ C ks W=>Fm C/\∃t,gd ks W f=some t/\q (.fz t)|_=>False
def TB(i:Nat){x:Str}(c:∀C,Fm C->Cls X.K C/\cD X.K C f)(n:n_X X i x:=by exact⟨rfl,rfl,wf,wf⟩)(j:attributeBase (.Name x p) f X.env (eval (.Name x p) X.env)=eval (.Name x p) X.env:=by rfl):QE X (.Attribute (.Name x p) f N) (CO Fm i f):=(D3 (pv i n) j).imp λI H Q m=>by
 obtain⟨own,o,R,h,b,k⟩:=m;unfold CO at b;cases es:slot o i with
 |ob a D C ks W =>
  rw[es]at b;obtain⟨u,B,J,A,L,y,G,l,r⟩:=h.val es (by intro z;cases z);cases A;obtain⟨d,t,w,q⟩:=b;obtain⟨v,s,e⟩:=(pa r).1 t w;exact⟨_,B,a,C,D,_,v,rfl,y,(c C d).1,(c C d).2,s,k H _ _ q (.refl _) (NR.fz e)⟩
 |_=>rw[es]at b;exact b.elim
def C9(Fm:Addr->Prop)(i:Nat)(f:Str)(a:RE):RS:=λE o=>match slot o i with|.ob b c C ks W=>a o λy=>(Fm C/\ks.length<1000)/\E.nx (o.set i (.ob b c C (M4 ks f) (CV ks W f (frz y))))|_=>False
def tU(i:Nat){x:Str}(c:∀C,Fm C->Cls X.K C/\cD X.K C f)(G:QE X e re)(P:n_X X i x:=by exact⟨rfl,rfl,wf,wf⟩)(F:swapsWith e (some (.Attribute (.Name x p) f az)) N.line X.env=pure false:=by rfl):QS X (.Assign [.Attribute (.Name x p) f az] e N) (C9 Fm i f re):=(Qb (pv i P) G F).imp λD I H O=>by
 obtain⟨own,o,E,h,d,L⟩:=O;unfold C9 at d;cases es:slot o i with
 |ob a j C ks W =>
  rw[es]at d;obtain⟨u,s,J,R,k,n,m,l,r⟩:=h.val es (by intro z;cases z);cases R;refine tQ.mk h d λZ v y q g t=>⟨_,s,a,C,j,_,rfl,g _ _ n,(c C q.1.1).1,(c C q.1.1).2,by rw[VZ,<- l,UV];exact q.1.2,?_⟩;obtain⟨w,pl⟩:=Vu (f:=f) (v:=v) l;rw[w];have A:j≠a:=pu m n (by intro z;cases z);obtain⟨Q,S⟩:=(h.same g).chg (iQ es (by intro z;cases z)) (y:=.ob a j C (M4 ks f) (CV ks W f (frz y))) (Y:=upd Z a (.ins C j ((M4 ks f).zip (CV ks J f v)))) (λb u M e=>(cA λz=>M (by rw[k,z];simp)).trans e) (by
   rw[s,Hv ⟨i,by rw[k];simp⟩];exact⟨_,rfl,k,cF,(cA A).trans (g _ _ m),pl,bV.put t (r.same (bU g))⟩)
  exact L.nx own _ I _ q.2 ((bU g).trans S) Q
 |_=>rw[es]at d;exact d.elim
def IF(Fm:Addr->Prop)(f:Str)(a:RE):RE:=λo q=>a o λx=>match frz x with|.ins C ks W=>Fm C/\∃t,gd ks W f=some t/\q (.fz t)|_=>False
def sE(c:∀C,Fm C->Cls X.K C/\cD X.K C f)(m:QE X e re)(n:zo X e f:=by rfl):QE X (.Attribute e f N) (IF Fm f re):=(D3 m n).imp λI H Q ⟨own,o,R,h,j,k⟩=>tQ.mk h j λZ v x q w b=>by
 revert b q
 generalize frz x=t;intro q b;cases t<;>try exact q.elim
 obtain⟨a,u,J,rfl,e,d,l,r⟩:=b.insI;obtain⟨g,t,s,q⟩:=q;obtain⟨v,p,i⟩:=(pa r).1 t s;exact⟨a,_,u,_,v,rfl,(cW e).2,(c _ g).1,(c _ g).2,p,k Z _ _ q w (NR.fz i)⟩
abbrev FE(X:Cx)(k:Nat)(fa:Addr)(ps:Φ)(S:ST):Prop:=zC X ab k fa ps (am X.K S)
def OkI.hid{P:Program}{w:World}{K:Frag}{mg:Str->Ω}{base:Heap}{k:Nat}{a:Addr}{ps:Φ}{sp:Sp}(G:OkI P w K mg base ab k a ps sp):OkI P w K mg base ab k a ps (gm sp):=by obtain⟨fd,F,b⟩:=G;exact⟨fd,F.hid,b⟩
def Ux{o:xy}{f:Ζ}{E:XK}(l:SR X.K own Z I o)(i:bV X.K (hd (Ow own) Z) f W)(q:S W R)(k:∀Y v x,R x->z0 Z Y->NR X.K (Ow own) Z Y v x->Q v Y):gm (am X.K S) f Z Q E:=by
 refine⟨Ow own,l.hid,W,R,i,q,λG v x h E n d=>?_⟩;have m:z0 Z (cH (Ow own) Z G):=λb u e=>by
  by_cases z:Ow own b
  .rw[vZ z];exact e
  .rw[jZ z];exact E b u ((cY z).trans e)
 have g:z0 G (cH (Ow own) Z G):=λb u e=>by rw[jZ λz=>by rw[d b z]at e;cases e];exact e
 refine k _ v x h m ?_;obtain⟨B,j,s⟩:=n;have out:∀a∈B,¬Ow own a:=λa c z=>(s.sole c).ne (d a z);refine⟨B,λa c=>by have:=j a c;rwa[cY (out a c)]at this,s.same (jT (λb z=>?_) g) g⟩;rcases z with z|z
 .exact .inr (d b z)
 .exact .inl (.inr z)
def C4(C:Addr)(c:Φ)(S:ST)(a:RE)(r:RA):RE:=λo q=>a o λx=>match frz x with|.ins b ks W=>(b=C/\ks=c)/\r o λas=>S (.ins b ks W::as) q|_=>False
theorem Qx{f:Str} : ∀{a:Φ}{J:Ζ},f∉a->(a.zip J).lookup f=none
 |[],_,_=>rfl
 |_::_,[],_=>rfl
 |k::a,x::J,h=>by
  rw[zip_cons_cons,lookup_cons,beq_false_of_ne λ(z:f=k)=>h (by rw[z];exact aO ..)];exact Qx λz=>h (aJ _ z)
def Bh{o:Expr}{m:RE}{s C:Addr}{KS:Φ}(D:QE X o m)(c:Cls X.K C)(z:Meth X.K C f s)(G:FE X k s ps S)(F:QA X (e::es) r)(j:dY k X.A:=by exact dY.mono (by assumption) wf)(B:f∉KS:=by decide +kernel)
 (M:qS X e es:=by rfl)(O:qE X N es:=by rfl)
 (y:eval (.Call (.Attribute o f ai) (e::es) [] N) X.env=(do
   let p <- eval o X.env
   standAt ai.atName
   let(f,first) <- holding [p] (getMethod p f pl)
   callWith N f first (backTo N (starEach (e::es) X.env)) (backToKw N (keywordEach [] X.env))):=by rfl) :
  QE X (.Call (.Attribute o f ai) (e::es) [] N) (C4 C KS S m r):=(acJ (pl:=pl) D c z (OkI.hid G) j F M O y).imp λI H Q ⟨own,o,R,h,j,k⟩=>tQ.mk h j λZ v x q i b=>by
 revert b q
 generalize frz x=t;intro q b;cases t<;>try exact q.elim
 obtain⟨a,L,J,rfl,e,d,l,r⟩:=b.insI;obtain⟨⟨rfl,rfl⟩,q⟩:=q;refine⟨a,L,_,rfl,(cW e).2,Qx B,tQA.mk (h.same i) q λT P as q _ g w=>?_⟩;exact Ux ((h.same i).same g) (.cons (b.same (bU g)) w) q λY v x u E n=>k Y v x u (i.trans (g.trans E)) (n.back (i.trans g))
def u5{o:Expr}{j:RE}{p C:Addr}{KS:Φ}(z:QE X o j)(c:Cls X.K C)(w:Meth X.K C f p)(G:FE X k p ps S)(g:dY k X.A:=by exact dY.mono (by assumption) wf)(y:f∉KS:=by decide +kernel)
 (u:eval (.Call (.Attribute o f ai) [] [] N) X.env=(do
   let m <- eval o X.env
   standAt ai.atName
   let(f,first) <- holding [m] (getMethod m f pl)
   callWith N f first (backTo N (starEach [] X.env)) (backToKw N (keywordEach [] X.env))):=by rfl) :
  QE X (.Call (.Attribute o f ai) [] [] N) (C4 C KS S j n4):=(abj (pl:=pl) z c w (OkI.hid G) g u).imp λI H Q ⟨own,o,R,h,g,k⟩=>tQ.mk h g λZ v x q i b=>by
 revert b q
 generalize frz x=t;intro q b;cases t<;>try exact q.elim
 obtain⟨a,B,J,rfl,e,d,l,r⟩:=b.insI;obtain⟨⟨rfl,rfl⟩,q⟩:=q;refine⟨a,B,_,rfl,(cW e).2,Qx y,?_⟩;exact Ux (E:=E0) (h.same i) (.cons b .nil) q λY v x s E n=>k Y v x s (i.trans E) (n.back i)
def MU(C:Addr)(S:SI)(r:RA):RE:=λo q=>r o λas=>S C [] [] as λks W=>q (.fz (.ins C ks W))
theorem Et{x:Str}{B C:Addr}{S:SI}(M:Mk X.K C B)(G:zC X ab k B ps (di X.K S))(T:X.mg x=some (.ref C))(W:QA X (e::es) r)(i:dY (k+1) X.A:=by exact dY.mono (by assumption) wf)(U:Gl X x:=by rfl)(cr:qV x:=by decide)
 (V:qS X e es:=by rfl)(bj:qE X N es:=by rfl):QE X (.Call (.Name x p) (e::es) [] N) (MU C S r):=(_T M (OkI.hid G) i U T W cr V bj).imp λI H Q ⟨own,o,R,h,i,k⟩=>tQA.mk h i λZ L as q _ F P a c y w v=>by
 have j:=h.same F;have f:z0 Z (upd (upd Z c (.own a)) a (.ins C c [])):=(z0.upd w).trans (z0.upd ((cA (Ne.symm v)).trans y));have Y:=j.same f;have t:¬Ow own a:=λz=>(j.sole z).ne y;have s:¬Ow own c:=λz=>(j.sole z).ne w;refine⟨Ow own,Y.hid,a,c,C,[],[],[],L,as,_,rfl,(cY t).trans cF,(cY s).trans ((cA v).trans cF),rfl,.nil,P.same (λb u e=>?_),q,λG eW fI fw O E ea ed l r D=>⟨rfl,?_⟩⟩
 .obtain⟨n,e⟩:=cW e;have g:¬cw a c b:=λz=>by rcases z with rfl|rfl<;>rw[e]at *<;>contradiction
  rw[cY g,cY n];exact f _ _ e
 .have d:z0 G (cH (Ow own) (upd (upd Z c (.own a)) a (.ins C c [])) G):=λb u e=>by rw[jZ λz=>by rw[D b z]at e;cases e];exact e
  refine k _ _ _ O (F.trans λb u e=>?_) (NR.fz (.ins (dx:=c) (ks:=eW) (J:=fI) ?_ ?_ l (r.same λb u e=>?_)))
  .by_cases z:Ow own b
   .rw[vZ z];exact f _ _ e
   .have g:¬cw a c b:=λz=>by rcases z with rfl|rfl<;>rw[e]at *<;>contradiction
    exact d _ _ (cW (E b u ((cY g).trans ((cY z).trans (f _ _ e))))).2
  .rw[cY t];exact d _ _ ea
  .rw[cY s];exact d _ _ ed
  .have m:=(cW e).2;rw[cY λz=>by rw[D b z]at m;cases m];exact d _ _ m
def DE(i:Nat)(S:SI)(r:RA):RS:=λE o=>match slot o i with|.ob a d C ks W=>r o λas=>S C ks W as λc b=>E.nx (o.set i (.ob a d C c b))|_=>False
def J3(i:Nat){x y m:Str}{Q B:Addr}{S:SI}(c:IV X.K B m Q)(G:zC X ab k Q ps (di X.K S))(hm:X.mg x=some (.ref B))(ha:QA X es r)(t:dY k X.A:=by exact dY.mono (by assumption) wf)(hg:Gl X x:=by rfl)
 (hN:n_X X i y:=by exact⟨rfl,rfl,wf,wf⟩)(cr:qV x:=by decide)
 (T:starEach (.Name y p2::es) X.env=(false,eval (.Name y p2) X.env)::starEach es X.env:=by rfl)(bj:qE X af es:=by rfl)
 (ht:eval (.Call (.Attribute (.Name x p) m ai) (.Name y p2::es) [] af) X.env=(do
   let P <- eval (.Name x p) X.env
   standAt ai.atName
   let(f,first) <- holding [P] (getMethod P m pl)
   callWith af f first (backTo af (starEach (.Name y p2::es) X.env)) (backToKw af (keywordEach [] X.env))):=by rfl)
 (hs:swapsWith (.Call (.Attribute (.Name x p) m ai) (.Name y p2::es) [] af) none N.line X.env=pure false:=by rfl) :
  QS X (.Expr (.Call (.Attribute (.Name x p) m ai) (.Name y p2::es) [] af) N) (DE i S r):=(wL (ac7 (pl:=pl) c (OkI.hid G) t hg hm (f9 (pv i hN) ha T) cr T bj ht) hs).imp λD I H hP=>by
 obtain⟨own,o,E,h,t,L⟩:=hP;unfold DE at t;cases es:slot o i with
 |ob a g C ks W =>
  rw[es]at t;obtain⟨u,R,J,e2,O,e4,e5,l,r⟩:=h.val es (by intro z;cases z);cases e2;refine⟨_,R,tQA.mk h t λZ vs as q _ F r1=>?_⟩;have s:=h.same F;have sub:∀b,cw a g b->b∈own i:=λb z=>by rw[O];rcases z with rfl|rfl<;>simp
  have v:∀b,b∈own i->cw a g b:=λb z=>by
   rw[O]at z;rcases YU.mp z with z|z
   .exact .inl z
   .exact .inr (YR.mp z)
  have hid:mo Z (λb=>Ow own b/\¬cw a g b):=⟨λb z=>s.sole z.1,λb C d f ⟨⟨j,z⟩,n⟩ e=>⟨⟨j,(s.mate z).1 C d f e⟩,λy=>n (v b ((s.dis j i d ((s.mate z).1 C d f e) (sub d y)) ▸ z))⟩,λb x ⟨⟨j,z⟩,n⟩ e=>⟨⟨j,(s.mate z).2 x e⟩,λy=>n (v b ((s.dis j i x ((s.mate z).2 x e) (sub x y)) ▸ z))⟩⟩;have er:∀Y:Hp,hd (cw a g) (hd (λb=>Ow own b/\¬cw a g b) Y)=hd (Ow own) Y:=λY=>funext λb=>by
   by_cases z:cw a g b
   .rw[sZ z,sZ ⟨i,sub b z⟩]
   .rw[cY z];by_cases y:Ow own b
    .rw[sZ (⟨y,z⟩ : Ow own b/\¬cw a g b),sZ y]
    .rw[cY (λw=>y w.1),cY y]
  have na:¬(Ow own a/\¬cw a g a):=λz=>z.2 (.inl rfl);have nd:¬(Ow own g/\¬cw a g g):=λz=>z.2 (.inr rfl);refine⟨_,hid,a,g,C,ks,J,W,vs,as,_,rfl,(cY na).trans (F _ _ e4),(cY nd).trans (F _ _ e5),l,by rw[er];exact r.same (bU F),by rw[er];exact r1,q,λG eW fI fw rx V ea ed l' r' U=>?_⟩;rw[er]at V;have M:∀{b:Addr}{u:HO},G b=some u->cH (λb=>Ow own b/\¬cw a g b) Z G b=some u:=λ{b u}e=>(jZ λz=>by rw[U b z]at e;cases e).trans e;obtain⟨h',S'⟩:=s.chg (iQ es (by intro z;cases z)) (y:=.ob a g C eW fw) (Y:=cH (λb=>Ow own b/\¬cw a g b) Z G) (λb u hb e=>by
   by_cases z:Ow own b
   .rw[vZ ⟨z,λy=>hb (sub b y)⟩];exact e
   .exact M (cW (V b u ((cY z).trans e))).2) (by
   rw[R];refine⟨fI,rfl,O,M ea,M ed,l',r'.same λb u e=>?_⟩;obtain⟨n1,e⟩:=cW e;rw[cY λz=>by rw[U b ⟨z,n1⟩]at e;cases e];exact M e)
  exact L.nx own _ I _ rx ((bU F).trans S') h'
 |_=>rw[es]at t;exact t.elim
end
section
variable{X:Cx}{a b c e:Expr}{ra rb rc re:RE}{N p:Pos}
def lF{x:Str}{A:Addr}{i:Int}{N:Pos}(b:X.mg x=some (.ref A))(a:∀H,SqT X.K H A [.int i,.int j])(c:Gl X x:=by rfl)(hd:qV x:=by decide):QE X (.Name x N) (rC (.tup [.int i,.int j])):=qC (ad6 c b hd) λF=>.tup (a F) (.cons (.int _) (.cons (.int _) .nil))
def QE.any{b:Addr->Prop}{r:Addr->RE}(h:∀C,b C->QE X e (r C)):QE X e (λo q=>∃C,b C/\r C o q):=λU s I H Q a ⟨own,o,R,c,⟨C,f,d⟩,k⟩=>h C f U s I H Q a ⟨own,o,R,c,d,k⟩
def qP{a j:Pos}:=@ye X tg iter be aS ri g rc re O N i0 y0 a j (λi r n g c e=>BI i (h9 r n g c e)) λ{_ i0 _ _ _ _ _ _ _ _}⟨own,o,E,h,d,L⟩=>M_ ⟨own,o,_,h,d,λY v y q S n=>by
 obtain⟨k,f,l⟩:=h.putA S (n.frz λb z=>(h.sole z).ne) i0;exact L.nx k Y _ _ q l f⟩
def JE(i j:Nat)(r:RA):RS:=λE o=>r o λW=>match W with|[t,u]=>E.nx ((o.set i (.fz t)).set j (.fz u))|_=>False
def P2(i j:Nat){x y:Str}{e d f:Pos}{g k c}(M:X.calm)(P:X.N.Nodup)(z:i≠j)(O:QA X [a,b] r)(K:X.N[i]?=some x:=by rfl)(J:X.N[j]?=some y:=by rfl)
 (B:X.env.scope.names.lookup x=some .local:=by rfl)(A:X.env.scope.names.lookup y=some .local:=by rfl)
 (C:swappedStores [.Tuple [.Name x e,.Name y d] g f] (.Tuple [a,b] k c) X.env=pure (some [x,y]):=by rfl)
 (F:swapsWithSole [.Tuple [.Name x e,.Name y d] g f] (.Tuple [a,b] k c) N.line X.env=pure false:=by rfl) :
  QS X (.Assign [.Tuple [.Name x e,.Name y d] g f] (.Tuple [a,b] k c) N) (JE i j r):=(PF M P K J z B A O C F).imp λD I H ⟨own,o,E,h,G,L⟩=>⟨own,o,_,h,G,λZ U W q _ m p=>by
 match W,q with
 |[t,u],q =>
  obtain⟨v,w,rfl,n,s⟩:=p.two;refine⟨v,w,rfl,?_⟩;obtain⟨V,R,l⟩:=(h.same m).setF n (X2 i);obtain⟨S,Q,T⟩:=R.putA (.refl _) (NR.fz (s.same l.same)) j;exact L.nx S Z _ _ q ((bU m).trans (l.same.trans T)) Q⟩
def GW{a:Type}{J:List α}{ys:List a}{y:a}(l:J.length=ys.length)(e:ca ys j=some y):∃n x,c6 ys.length j=some n/\ys[n]?=some y/\J[n]?=some x/\dq J j=some x:=by
 rw[XF]at e;unfold dq at e ⊢;rw[l];cases z:c6 ys.length j with
 |none=>rw[z]at e;cases e
 |some n =>
  rw[z]at e;have b:n<J.length:=l ▸ (ao.mp e).1;exact⟨n,J[n],rfl,e,aj b,aj b⟩
theorem KY{α:Type} : ∀{l:List α},l.Nodup->∀{i j:Nat}{x:α},l[i]?=some x->l[j]?=some x->i=j
 |[],_,_,_,_,e,_=>by cases e
 |y::l,d,i,j,x,b,a=>by
  obtain⟨c,f⟩:=List.nodup_cons.mp d;cases i with
  |zero =>
   cases j with
   |zero=>rfl
   |succ j=>cases b;exact absurd (aC (by simpa using a)) c
  |succ i =>
   cases j with
   |zero=>cases a;exact absurd (aC (by simpa using b)) c
   |succ j=>exact ZH (· + 1) (KY f (by simpa using b) (by simpa using a))
def SR.l2{K:Frag}{own:Nat->Ψ}{H:Hp}{I:L2.St}{o:xy}(h:SR K own H I o){i:Nat}{c:wb}(e:slot o i=.l2 c):∃l a,I[i]?=some (some (.ref l))/\own i=l::a/\(l::a).Nodup/\H l=some (.lst (a.map V.ref))/\a.length=c.length/\∀(i:Nat)b W,a[i]?=some b->c[i]?=some W->∃J,H b=some (.lst J)/\bV K (hd (Ow own) H) J W:=by
 obtain⟨u,m,l,a,k,j,d,g,f,r⟩:=h.val e (by intro z;cases z);cases k;exact⟨l,a,m,j,d,g,f,r⟩
def SR.chg2{o:xy}(h:SR K own H I o){i:Nat}{j:wb}(e:slot o i=.l2 j){l b:Addr}{a:Ψ}{s:xj}(m:I[i]?=some (some (.ref l)))(p:own i=l::a)(t:(l::a).Nodup)(D:H l=some (.lst (a.map V.ref)))(v:a.length=j.length)(r:∀(i:Nat)b W,a[i]?=some b->j[i]?=some W->∃J,H b=some (.lst J)/\bV K (hd (Ow own) H) J W)(d:a[n]?=some b)(x:bV K (hd (Ow own) H) ys s) :
  SR K own (upd H b (.lst ys)) I (o.set i (.l2 (j.set n s)))/\z0 (hd (Ow own) H) (hd (Ow own) (upd H b (.lst ys))):=by
 have w:=aC d;obtain⟨B,C⟩:=List.nodup_cons.mp t;refine h.chg (iQ e (by intro z;cases z)) (λc u hc e=>(cA λz=>hc (by rw[p,z];exact aJ _ w)).trans e) ?_;rw[m,Hv ⟨i,by rw[p];exact aJ _ w⟩];refine⟨l,a,rfl,p,t,(cA λ(z:l=b)=>B (by rwa[z])).trans D,by rw[VT];exact v,λk c W f g=>?_⟩;by_cases z:k=n
 .subst z;rw[d]at f;cases f;rw[Tx (v ▸ (ao.mp d).1)]at g;cases g;exact⟨ys,cF,x⟩
 .rw[UT (Ne.symm z)]at g;obtain⟨J,q,A⟩:=r k c W f g;refine⟨J,(cA λy=>?_).trans q,A⟩;have F:=(ao.mp f).1;have E:=(ao.mp d).1;exact z (KY C f (by rw[d,y]))
def X3{a:Ψ}{c:Addr}(e:dq a j=some c):dq (a.map V.ref) j=some (.ref c):=by
 have:dq (a.map V.ref) j=(dq a j).map V.ref:=by unfold dq;rw[ak];cases c6 a.length j<;>simp
 rw[this,e];rfl
def Do(i:Nat)(a b:RE):RE:=λo q=>match slot o i with
 |.l2 c=>a o λx=>(match frz x with|.int j=>∃W,ca c j=some W/\b o λy=>(match frz y with|.int m=>∃t,ca W m=some t/\q (.fz t)|_=>False)|_=>False)
 |_=>False
def UF(i:Nat){x:Str}(F:QE X a ra)(E:QE X b rb)(K:n_X X i x:=by exact⟨rfl,rfl,wf,wf⟩)(B:vD a:=by exact λ_ _=>rfl)(D:vD b:=by exact λ_ _=>rfl):QE X (.Subscript (.Subscript (.Name x p) a p2) b N) (Do i ra rb):=(Pz Bf (Pz Bf (pv i K) F B) E D).imp λI H Q G=>by
 obtain⟨own,o,R,h,d,k⟩:=G;unfold Do at d;cases es:slot o i with
 |l2 aw =>
  rw[es]at d;obtain⟨l,m,e1,e3,nd,Y,A,r⟩:=h.l2 es;refine⟨_,e1,tQ.mk h d λZ v x q j f=>?_⟩
  revert f q
  generalize frz x=t;intro q f;cases t<;>try exact q.elim
  cases f;obtain⟨W,P,q⟩:=q;obtain⟨n,c,_,L,T,S⟩:=GW (J:=m) A P;obtain⟨J,M,s⟩:=r n c W T L;refine⟨l,m.map V.ref,_,.ref c,rfl,rfl,.of (j _ _ Y),?_,tQ.mk (h.same j) q λH2 w y q E2 e=>?_⟩
  .exact X3 S
  .revert e q
   generalize frz y=t;intro q e;cases t<;>try exact q.elim
   cases e;obtain⟨t,O,q⟩:=q;obtain⟨z,U,u⟩:=s.ix O;have g:=j.trans E2;exact⟨c,J,_,z,rfl,rfl,.of (g _ _ M),U,k H2 _ _ q g (NR.fz (u.same (bU g)))⟩
 |_=>rw[es]at d;exact d.elim
def C7(i:Nat)(a b:RE):RS:=λE o=>match slot o i with
 |.l2 c=>a o λx=>(match frz x with|.int j=>∃n W,c6 c.length j=some n/\c[n]?=some W/\W.length<sizeLine/\b o λy=>E.nx (o.set i (.l2 (c.set n (W++[frz y]))))|_=>False)
 |_=>False
def r2{a:Type}{J:List α}{ys:List a}{y:a}(l:J.length=ys.length)(e:c6 ys.length j=some n)(c:ys[n]?=some y):∃x,J[n]?=some x/\dq J j=some x:=by
 have b:n<J.length:=l ▸ (ao.mp c).1;exact⟨J[n],aj b,by unfold dq;rw[l,e];exact aj b⟩
def ZB(i:Nat){x:Str}{k:Pos}(ha:QE X a ra)(Y:QE X e re)(hN:n_X X i x:=by exact⟨rfl,rfl,wf,wf⟩)(O:vD a:=by exact λ_ _=>rfl)
 (hb:attributeBase (.Subscript (.Name x p) a p2) "append" X.env (eval (.Subscript (.Name x p) a p2) X.env)=eval (.Subscript (.Name x p) a p2) X.env:=by rfl)
 (U:zk X af e:=by rfl)
 (T:ze k af:=by rfl)(F:qS X e []:=by rfl)(R:qE X af []:=by rfl)
 (Q:swapsWith (.Call (.Attribute (.Subscript (.Name x p) a p2) "append" k) [e] [] af) none N.line X.env=pure false:=by rfl) :
  QS X (.Expr (.Call (.Attribute (.Subscript (.Name x p) a p2) "append" k) [e] [] af) N) (C7 i ra re):=(wL (EN (Pz Bf (pv i hN) ha O) (f9 Y zG F) hb U T F R) Q).imp λD I H hP=>by
 obtain⟨own,o,E,h,f,L⟩:=hP;unfold C7 at f;cases es:slot o i with
 |l2 aw =>
  rw[es]at f;obtain⟨l,G,C,e3,M,B,s,r⟩:=h.l2 es;refine⟨_,C,tQ.mk h f λZ v x q g j=>?_⟩
  revert j q
  generalize frz x=t;intro q j;cases t<;>try exact q.elim
  cases j;obtain⟨n,W,en,u,sz,q⟩:=q;obtain⟨c,A,ei⟩:=r2 (J:=G) s en u;obtain⟨J,z,m⟩:=r n c W A u;refine⟨l,G.map V.ref,_,.ref c,rfl,rfl,.of (g _ _ B),X3 ei,c,J,rfl,g _ _ z,tQ.mk (h.same g) q λH2 w y q E2 K=>?_⟩;have d:=g.trans E2;refine⟨w,J,rfl,d _ _ z,by rw[m.len];exact sz,?_⟩;obtain⟨h',S⟩:=(h.same d).chg2 es C e3 M (d _ _ B) s (λi b W a c=>let⟨J,p,q⟩:=r i b W a c;⟨J,d _ _ p,q.same (bU d)⟩) A ((m.same (bU d)).app (.cons K .nil));exact L.nx own _ I _ q ((bU d).trans S) h'
 |_=>rw[es]at f;exact f.elim
def C0(i:Nat)(c a b:RE):RS:=λE o=>match slot o i with
 |.l2 d=>c o λy=>a o λx=>(match frz x with|.int j=>∃n W,c6 d.length j=some n/\d[n]?=some W/\b o λz=>(match frz z with|.int m=>∃k,c6 W.length m=some k/\E.nx (o.set i (.l2 (d.set n (W.set k (frz y)))))|_=>False)|_=>False)
 |_=>False
def _L(i:Nat){x:Str}(he:QE X e re)(ha:QE X a ra)(hk:QE X b rb)(hN:n_X X i x:=by exact⟨rfl,rfl,wf,wf⟩)(U:vD a:=by exact λ_ _=>rfl)
 (hq:∀v,assign (.Subscript (.Subscript (.Name x p) a p2) b az) X.env v=(do
   let m <- holding [v] (eval (.Subscript (.Name x p) a p2) X.env)
   let A <- holding [v,m] (eval b X.env)
   standAt az
   holding [v,m,A] (setItem m A v)
   release [v,m,A] []):=by intro _;rfl)
 (hs:swapsWithSole [.Subscript (.Subscript (.Name x p) a p2) b az] e N.line X.env=pure false:=by rfl)(hw:swappedStores [.Subscript (.Subscript (.Name x p) a p2) b az] e X.env=pure none:=by rfl)
 (h1:(assignEach [.Subscript (.Subscript (.Name x p) a p2) b az] X.env).map (·.2)=[assign (.Subscript (.Subscript (.Name x p) a p2) b az) X.env]:=by rfl):QS X (.Assign [.Subscript (.Subscript (.Name x p) a p2) b az] e N) (C0 i re ra rb):=(XJ he (D1 (Pz Bf (pv i hN) ha U) hk set_list hq) hs hw h1).imp λD I H hP=>by
 obtain⟨own,o,E,h,g,L⟩:=hP;unfold C0 at g;cases es:slot o i with
 |l2 aw =>
  rw[es]at g;obtain⟨l,O,M,e3,T,K,C,r⟩:=h.l2 es;refine tQ.mk h g λH0 v0 y q j R=>⟨_,M,tQ.mk (h.same j) q λZ v x q Q u=>?_⟩
  revert u q
  generalize frz x=t;intro q u;cases t<;>try exact q.elim
  cases u;obtain⟨n,W,en,F,q⟩:=q;obtain⟨c,G,ei⟩:=r2 (J:=O) C en F;obtain⟨J,eq,B⟩:=r n c W G F;have f:=j.trans Q;refine⟨l,O.map V.ref,_,.ref c,rfl,rfl,.of (f _ _ K),X3 ei,tQ.mk (h.same f) q λH2 w z q P s=>?_⟩
  revert s q
  generalize frz z=t;intro q s;cases t<;>try exact q.elim
  cases s;obtain⟨k,ek,q⟩:=q;have d:=f.trans P;refine⟨c,J,_,k,rfl,rfl,d _ _ eq,by rw[B.len];exact ek,?_⟩;obtain⟨h',S⟩:=(h.same d).chg2 es M e3 T (d _ _ K) C (λi b W a c=>let⟨J,p,q⟩:=r i b W a c;⟨J,d _ _ p,q.same (bU d)⟩) G (bV.set (R.same (bU (Q.trans P))) k (B.same (bU d)));exact L.nx own _ I _ q ((bU d).trans S) h'
 |_=>rw[es]at g;exact g.elim
def IY:zn
 |.str i,.str j,q=>q (.fz (.bl (!decide (j.cps.toList<i.cps.toList))))
 |_,_,_=>False
def EA:GO X (compareOp .LtE) IY:=Ps.imp λx y H Q d=>by
 obtain⟨S,t,u,R,_,c,b,a,k⟩:=d;cases c<;>try exact a.elim
 cases b<;>try exact a.elim
 exact⟨_,_,rfl,rfl,k H _ _ a (.refl _) (NR.fz (.bl _))⟩
def ZE:GC X (.builtin "len") (g1 Ic):=.one SM λS t x H Q R b a k=>by
 cases t<;>try exact a.elim
 cases b;exact⟨_,rfl,a.1,k H _ _ a.2 (.refl _) (NR.fz (.int _))⟩
def LI(a:RE):RI:=λo q=>a o λx=>match frz x with|.str s=>q (s.cps.toList.map λc=>.str ⟨#[c]⟩)|_=>False
def OZ(j:QE X e re):QI X tg e (LI re):=(PZ j).imp λI H Q ⟨own,o,R,h,f,k⟩=>tQ.mk h f λZ v x q l b=>by
 revert b q
 generalize frz x=t;intro q b;cases t<;>try exact q.elim
 cases b;refine⟨_,rfl,k Z _ _ q l λS r i _ n=>⟨λg=>show i=_ by simpa using g,λt a=>?_⟩⟩;rw[aq]at a;cases z:(‹Str›.cps.toList)[i]? with
 |none=>rw[z]at a;cases a
 |some c =>
  rw[z]at a;cases a;refine⟨show i<_ by simpa using(ao.mp z).1,?_⟩;rintro x p ⟨rfl,m,d,rfl⟩;rw[<- Array.getElem?_toList,z]at d;cases d;exact⟨.refl _,.str _⟩
end
abbrev HG:=zh
section
variable{α β:Type}{g:HG}{b:RS}{E:DT}{o:xy}
theorem EV(h:α->T)(l:List α)(J:List α->xy->Prop)(st:∀as a c o,l=as++a::c->J as o->g (h a) o λf=>b { E with nx:=J (as++[a]),ct:=J (as++[a]),bk:=E.nx } f)(d:∀o,J l o->E.nx o):∀(c as:List α)(o:xy),l=as++c->J as o->yp g b E (c.map h) o
 |[],as,o,e,j=>d o (by rw[append_nil]at e;rwa[e])
 |a::c,as,o,e,j=>⟨J (as++[a]),λo k=>EV h l J st d c (as++[a]) o (by rw[e];simp) k,st as a c o e j⟩
def gG(h:α->T)(l:List α)(J:List α->xy->Prop)(j:J [] o)(st:∀as a d o,l=as++a::d->J as o->g (h a) o λc=>b { E with nx:=J (as++[a]),ct:=J (as++[a]),bk:=E.nx } c)(e:∀o,J l o->E.nx o):yp g b E (l.map h) o:=EV h l J st e l [] o rfl j
theorem FQ(a:Nat->xy->Prop):∀(J:xj)(k:Nat){o:xy},a k o->(∀i t o,J[i]?=some t->a (k+i) o->g t o λd=>b { E with nx:=a (k+i+1),ct:=a (k+i+1),bk:=E.nx } d)->(∀o,a (k+J.length) o->E.nx o)->yp g b E J o
 |[],_,o,j,_,c=>c o j
 |t::W,k,o,j,st,c=>⟨a (k+1),λo z=>FQ a W (k+1) z (λi t o e z=>by
   have:=st (i+1) t o (by simpa using e) (by rw[show k+(i+1)=k+1+i by lia];exact z);rw[show k+(i+1)+1=k+1+i+1 by lia]at this;exact this) (λo z=>c o (by rw[length_cons,show k+(W.length+1)=k+1+W.length by lia];exact z)),st 0 t o rfl j⟩
def yF(J:Nat->xy->Prop)(j:J 0 o)(st:∀k o,k<n->J k o->g (.int (k:Nat)) o λc=>b { E with nx:=J (k+1),ct:=J (k+1),bk:=E.nx } c)(d:∀o,J n o->E.nx o):yp g b E (rng 0 n) o:=by
 refine FQ J (rng 0 n) 0 j (λi t o e z=>?_) λo z=>d o (by rw[rng,ak,WH,Nat.zero_add]at z;exact z);unfold rng at e;rw[aq]at e;by_cases a:i<n
 .rw[Up a]at e;cases e;rw[Nat.zero_add]at z ⊢;have:=st i o a z;show g (.int (0+((i:Nat):Int))) o _;rw[show(0:Int)+((i:Nat):Int)=((i:Nat):Int)by exact Int.zero_add _];exact this
 .rw[aM (by simpa using a)]at e;cases e
def BK(h:α->T)(l:List α)(J:Nat->xy->Prop)(j:J 0 o)(st:∀k a o,l[k]?=some a->J k o->g (.tup [.int (k:Nat),h a]) o λd=>b { E with nx:=J (k+1),ct:=J (k+1),bk:=E.nx } d)(f:∀o,J l.length o->E.nx o):yp g b E (Dc (l.map h)) o:=by
 refine FQ J (Dc (l.map h)) 0 j (λi t o e z=>?_) λo z=>f o (by rw[Dc,ak,length_zipIdx,ak,Nat.zero_add]at z;exact z);unfold Dc at e;rw[aq]at e;by_cases c:i<l.length
 .rw[aj (by simpa using c),List.getElem_zipIdx,UR]at e;cases e;rw[Nat.zero_add]at z ⊢;have:=st i _ o (aj c) z;exact this
 .rw[aM (by simpa using c)]at e;cases e
variable{c:RT}{e:RE}{q:xj->Prop}
theorem comp_map(h:α->T)(f:α->T):∀(l:List α){q:xj->Prop},(∀a∈l,∀(N:T->Prop)(M:Prop),N (f a)->g (h a) o λd=>c d λb=>sw b (e d λy=>N (frz y)) M)->q (l.map f)->iH g c e o (l.map h) q
 |[],_,_,k=>k
 |a::l,q,st,k=>⟨λy=>y=f a,False,λy z=>comp_map h f l (λa i=>st a (aJ _ i)) (z ▸ k),False.elim,st a (aO ..) (λy=>y=f a) False rfl⟩
theorem ud(h:α->T)(p:α->Bool)(f:α->T):∀(l:List α){q:xj->Prop},(∀a∈l,∀(N:T->Prop)(M:Prop),(p a=true->N (f a))->(p a=false->M)->g (h a) o λi=>c i λb=>sw b (e i λy=>N (frz y)) M)->q ((l.filter p).map f)->iH g c e o (l.map h) q
 |[],_,_,k=>k
 |a::l,q,st,k=>⟨λy=>y=f a/\p a,p a=false,λy z=>ud h p f l (λa d=>st a (aJ _ d)) (by rw[List.filter_cons_of_pos z.2]at k;exact z.1 ▸ k),λz=>ud h p f l (λa d=>st a (aJ _ d)) (by rw[List.filter_cons_of_neg (by rw[z];decide)]at k;exact k),st a (aO ..) (λy=>y=f a/\p a) (p a=false) (λz=>⟨rfl,z⟩) id⟩
inductive i'(R:α->T->Prop):List α->xj->Prop
 |nil:i' R [] []
 |cons {a:α}{t:T}{l:List α}{W:xj} : R a t->i' R l W->i' R (a::l) (t::W)
theorem Wb(h:α->T)(R:α->T->Prop):∀(l:List α){q:xj->Prop},(∀a∈l,∀(N:T->Prop)(M:Prop),(∀t,R a t->N t)->g (h a) o λd=>c d λb=>sw b (e d λy=>N (frz y)) M)->(∀W,i' R l W->q W)->iH g c e o (l.map h) q
 |[],_,_,k=>k [] .nil
 |a::l,q,st,k=>⟨R a,False,λy z=>Wb h R l (λa f=>st a (aJ _ f)) λW t=>k _ (.cons z t),False.elim,st a (aO ..) (R a) False λ_ z=>z⟩
def Sw(f:Nat->T)(n:Nat)(st:∀k,k<n->∀(N:T->Prop)(M:Prop),N (f k)->g (.int (k:Nat)) o λd=>c d λb=>sw b (e d λy=>N (frz y)) M)(k:q ((range n).map f)):iH g c e o (rng 0 n) q:=by
 refine comp_map (λk:Nat=>.int (0+k)) f (range n) (λa h N M i=>?_) k;have:=st a (List.mem_range.mp h) N M i;show g (.int (0+((a:Nat):Int))) o _;rw[show(0:Int)+((a:Nat):Int)=((a:Nat):Int)by exact Int.zero_add _];exact this
def zip_map{α β:Type}(h:α->T)(k:β->T)(J:List α)(ys:List β):xZ (J.map h) (ys.map k)=(J.zip ys).map λp=>.tup [h p.1,k p.2]:=by
 unfold xZ;rw[List.zip_map,WJ]
 rfl
def _V{α:Type}(h:α->T)(J:List α):Dc (J.map h)=J.zipIdx.map λp=>.tup [.int (p.2:Nat),h p.1]:=by
 unfold Dc;rw[List.zipIdx_map,WJ]
 rfl
end
def TQ(ks:xi)(j:bX):Bool:=ks.any λk=>decide (k=j)
def e7(ks:xi)(j:bX):xi:=if TQ ks j=true then ks else ks++[j]
def d3(ks:xi)(W:List α)(j:bX)(t:α):List α:=if TQ ks j=true then ks.zipWith (λk x=>if k=j then t else x) W else W++[t]
def _8{j:bX}(l:ks.length=J.length):putK (ks.zip J) j v=(e7 ks j).zip (d3 ks J j v)/\(e7 ks j).length=(d3 ks J j v).length:=by
 have any:∀{ks:xi}{J:Ζ},ks.length=J.length->((ks.zip J).any λb=>decide (b.1=j))=TQ ks j:=λ{ks}=>by
  induction ks with
  |nil=>intro J _;rfl
  |cons k ks a =>
   intro J l;cases J with
   |nil=>cases l
   |cons x J=>rw[zip_cons_cons,any_cons,a (Nat.succ.inj l)];rfl
 unfold putK e7 d3;rw[any l];by_cases h:TQ ks j
 .rw[ZY h,ZY h,ZY h];refine⟨?_,by rw[JP,l,UV]⟩
  clear any h
  induction ks generalizing J with
  |nil=>rfl
  |cons k ks a =>
   cases J with
   |nil=>cases l
   |cons x J =>
    rw[zip_cons_cons,map_cons,a (Nat.succ.inj l),zipWith_cons_cons,zip_cons_cons];by_cases h:k=j
    .rw[ZY h,ZY h]
    .rw[ZZ h,ZZ h]
 .rw[ZZ h,ZZ h,ZZ h];exact⟨by rw[List.zip_append l];rfl,by simp[l]⟩
def bV.kp{F:Hp}{j:bX}(r:Rep K F v t)(h:bV K F J W):bV K F (d3 ks J j v) (d3 ks W j t):=by
 unfold d3;by_cases z:TQ ks j
 .rw[ZY z,ZY z]
  clear z
  induction ks generalizing J W with
  |nil=>exact .nil
  |cons k ks c =>
   cases h with
   |nil=>exact .nil
   |cons a b =>
    rw[zipWith_cons_cons,zipWith_cons_cons];refine .cons ?_ (c b);by_cases y:k=j
    .rw[ZY y,ZY y];exact r
    .rw[ZZ y,ZZ y];exact a
 .rw[ZZ z,ZZ z];exact h.app (.cons r .nil)
section
variable{X:Cx}{a b c e:Expr}{ra rb rc re:RE}{N p:Pos}
def Da(i:Nat)(a b:RE):RS:=λE o=>match slot o i with|.d1 ks W=>a o λy=>b o λk=>∃j,h7 (frz k)=some j/\ks.length<sizeLine/\E.nx (o.set i (.d1 (e7 ks j) (d3 ks W j (frz y))))|_=>False
def SR.d1{K:Frag}{own:Nat->Ψ}{H:Hp}{I:L2.St}{o:xy}(h:SR K own H I o){i:Nat}{ks:xi}{W:xj}(e:slot o i=.d1 ks W):∃l J,I[i]?=some (some (.ref l))/\own i=[l]/\H l=some (.dK (ks.zip J))/\ks.length=J.length/\bV K (hd (Ow own) H) J W:=by
 obtain⟨u,d,l,J,c,b,a,r⟩:=h.val e (by intro z;cases z);cases c;exact⟨l,J,d,b,a,r⟩
def R0(i:Nat){x:Str}(G:X.A.units+1<cLine)(M:QE X e re)(d:QE X b rb)(P:n_X X i x:=by exact⟨rfl,rfl,wf,wf⟩)
 (K:swapsWith e (some (.Subscript (.Name x p) b az)) N.line X.env=pure false:=by rfl):QS X (.Assign [.Subscript (.Name x p) b az] e N) (Da i re rb):=(Tl G (pv i P) d M K).imp λD I H O=>by
 obtain⟨own,o,E,h,a,L⟩:=O;unfold Da at a;cases es:slot o i with
 |d1 ks W =>
  rw[es]at a;obtain⟨l,J,k,f,T,g,r⟩:=h.d1 es;refine tQ.mk h a λZ v y q n t=>⟨_,k,tQ.mk (h.same n) q λH2 w z q m s=>?_⟩;obtain⟨j,R,sz,q⟩:=q;have c:=n.trans m;cases Sy s R;obtain⟨B,pl⟩:=_8 (j:=j) (v:=v) g;have C:(ks.zip J).length<sizeLine:=by rw[VZ,<- g,UV];exact sz
  refine⟨l,_,rfl,.inl ⟨_,j,c _ _ T,rfl,C,rfl⟩,?_⟩;rw[B];obtain⟨Q,S⟩:=(h.same c).chg (iQ es (by intro z;cases z)) (y:=.d1 (e7 ks j) (d3 ks W j (frz y))) (Y:=upd H2 l (.dK ((e7 ks j).zip (d3 ks J j v)))) (λb u d e=>(cA λz=>d (by rw[f,z];simp)).trans e) (by
   rw[k,Hv ⟨i,by rw[f];simp⟩];exact⟨l,_,rfl,f,cF,pl,bV.kp (t.same (bU m)) (r.same (bU c))⟩)
  exact L.nx own _ I _ q ((bU c).trans S) Q
 |_=>rw[es]at a;exact a.elim
def Dx(i:Nat)(a b:RE):RE:=λo q=>match slot o i with|.d1 ks W=>a o λy=>b o λz=>∃j,h7 (frz y)=some j/\q (.fz ((rP ks W j).getD (frz z)))|_=>False
def _d(i:Nat){x:Str}{g:Pos}(F:X.A.units+1<cLine)(K:QE X a ra)(G:QE X b rb)(m:M2 X (.Name x p) "get" g a b af:=by first|exact⟨rfl,rfl,rfl,rfl⟩|constructor<;>rfl)(M:n_X X i x:=by exact⟨rfl,rfl,wf,wf⟩) :
  QE X (.Call (.Attribute (.Name x p) "get" g) [a,b] [] af) (Dx i ra rb):=(adM F (pv i M) K G m).imp λI H Q L=>by
 obtain⟨own,o,R,h,c,k⟩:=L;unfold Dx at c;cases es:slot o i with
 |d1 ks W =>
  rw[es]at c;obtain⟨l,J,S,e3,f,Y,r⟩:=h.d1 es;refine⟨_,S,l,rfl,.inl ⟨_,.inl f⟩,tQ.mk h c λZ v y q s D=>tQ.mk (h.same s) q λn w z q V C=>?_⟩;obtain⟨j,O,q⟩:=q;have e:=s.trans V;cases Sy D O;refine⟨_,HW.k (e _ _ f),?_⟩;have r:=r.same (bU e);cases d:rP ks W j with
  |none =>
   rw[d]at q;rw[(Ia r).2 d];exact k n _ _ q e (NR.fz C)
  |some t =>
   rw[d]at q;obtain⟨u,P,B⟩:=(Ia r).1 t d;rw[P];exact k n _ _ q e (NR.fz B)
 |_=>rw[es]at c;exact c.elim
def kT:bX->T
 |.inl i=>.int i
 |.inr s=>.str s
def oI(f:xi->xj->xj)(i n:Nat)(g:zh)(c:RT)(e:RE):RS:=λE o=>match slot o i with
 |.d1 ks W=>ks.length<=sizeLine/\iH g c e (replicate n .und++o.set i (.fz (.dct ks W))) (f ks W) λa=>E.rt (.l1 a)
 |_=>False
def iW(J:Addr->Obj->xF->It)(c:TE):TI:=λI H R=>c I H λx Z=>∃a b,x=.ref a/\Z a=some (.dK b)/\∀o,R (J a o b) (upd Z a (.frz o (.dK b)))
abbrev MD:=oI λks _=>ks.map kT
def W'{a:Addr}{f:Obj}{F:Hp}(l:ks.length=J.length)(e:F a=some (.frz f (.dK (ks.zip J)))):ie K (mn a f (ks.zip J)) F (ks.map kT):=λS H i _ m=>by
 have g:=(cW (m _ _ e)).2;have c:(ks.zip J).length=ks.length:=by rw[VZ,<- l,UV]
 refine⟨λd=>⟨g,by rw[c];simpa using d⟩,λt b=>?_⟩;rw[aq]at b;cases z:ks[i]? with
 |none=>rw[z]at b;cases b
 |some k =>
  rw[z]at b;cases b;have d:=(ao.mp z).1;refine⟨⟨g,by rwa[c]⟩,?_⟩;rintro x Y ⟨rfl,n,y,h,rfl⟩;rw[aj (by rwa[c]),getElem_zip]at h;rw[aj d]at z;cases z;cases h;refine⟨.refl _,?_⟩;cases ks[i]with
  |inl j=>exact .int _
  |inr s=>exact .str _
def UN{d:Addr->Obj->xF->It}{f:xi->xj->xj}{rc:RT}(i:Nat)(pi:PI X tg iter (iW d (oy i)))(U:∀{a q ks J W F},ks.length=J.length->F a=some (.frz q (.dK (ks.zip J)))->bV X.K F J W->ie X.K (d a q (ks.zip J)) F (f ks W)/\(f ks W).length=ks.length)(V:Scope)(c M J:Φ)(hg:∀{C m p G x},QG (X.compG M O J C m p G x) J.length tg g)(ht:∀{C m p G x},gE (X.compG M O J C m p G x) aS rc)(he:∀{C m p G x},QE (X.compG M O J C m p G x) be re)
 (c9:X.env.scope=V:=by rfl)(de:X.N=c:=by rfl)(hc:X.calm:=by rfl)(hk:O.kind=.function:=by rfl)(h:CK V O c M J:=by decide +kernel)(hs:zg X iter) :
  QS X (.Return (some (.ListComp be [⟨tg,iter,aS,0⟩] O af)) N) (oI f i J.length g rc re):=(Rv (D0 (gt:=gb X.K J.length g) (tc:=tQT X.K rc) (te:=tQ X.K re) V c M J pi hg ht he c9 de hc hk h hs)).imp λD I H Z=>by
 obtain⟨own,o,E,h,t,L⟩:=Z;unfold oI at t;cases es:slot o i with
 |d1 ks W =>
  rw[es]at t;obtain⟨l,ys,e1,R,e4,ln,r⟩:=h.d1 es;refine⟨_,e1,l,_,rfl,e4,λq DD nD=>?_⟩;have eo:∀b,Ow (own1 own i []) b->Ow own b/\b≠l:=λb Z=>by
   obtain⟨j,z⟩:=Z;by_cases y:j=i
   .rw[y,lA]at z;cases z
   .rw[gq y]at z;exact⟨⟨j,z⟩,λw=>y (h.dis j i b z (by rw[R,w];simp))⟩
  have nl:¬Ow (own1 own i []) l:=λz=>(eo l z).2 rfl;have ol:Ow own l:=⟨i,by rw[R];simp⟩;have T:z0 (hd (Ow own) H) (hd (Ow (own1 own i [])) (upd H l (.frz q (.dK (ks.zip ys))))):=λb u e=>by
   obtain⟨n,e⟩:=cW e;rw[cY λz=>n (eo b z).1,cA λ(z:b=l)=>n (z.symm ▸ ol)];exact e
  have h1:SR X.K (own1 own i []) (upd H l (.frz q (.dK (ks.zip ys)))) I (o.set i (.fz (.dct ks W))):=by
   have hi:i<o.length:=(ao.mp (iQ es (by intro z;cases z))).1;refine⟨by rw[VT,h.len],λj y S=>?_,λj hj a A=>?_,λj k a Q P=>?_⟩
   .by_cases z:j=i
    .subst z;rw[Tx hi]at S;cases S;rw[lA,e1];exact⟨rfl,_,rfl,.dct (.inr ⟨q,by rw[cY nl];exact cF⟩) ln (r.same T)⟩
    .rw[UT (Ne.symm z)]at S;rw[gq z];exact((h.sl j y S).same T (.refl _)).off λb hb u e=>(cA λw=>z (h.dis j i b hb (by rw[R,w];simp))).trans e
   .rw[VT]at hj;rw[gq wp]at A;obtain⟨J,e⟩:=h.out j hj a A;exact⟨J,(cA λw=>by have:=h.dis j i a A (by rw[R,w];simp);lia).trans e⟩
   .by_cases z:j=i
    .rw[z,lA]at Q;cases Q
    by_cases y:k=i
    .rw[y,lA]at P;cases P
    .rw[gq z]at Q;rw[gq y]at P;exact h.dis j k a Q P
  have L1:=L.step T;obtain⟨U,wl⟩:=U ln (by rw[cY nl];exact cF) (r.same T);refine Wx h1 U (by rw[wl];exact t.1) t.2 nD λY v y rx E n=>?_;obtain⟨B,nb,s⟩:=n;exact L1.rt _ Y v y B rx (jT (λb z=>z.imp id (nb b)) E) s λa A=>.inr A
 |_=>rw[es]at t;exact t.elim
def TN{rc:RT}{x:Str}(i:Nat)(k:Scope)(a j J:Φ)(r:∀{C b c f d},QG (X.compG j O J C b c f d) J.length tg g)(n:∀{C b c f d},gE (X.compG j O J C b c f d) aS rc)(s:∀{C b c f d},QE (X.compG j O J C b c f d) be re)
 (u:n_X X i x:=by exact⟨rfl,rfl,wf,wf⟩)
 (w:X.env.scope=k:=by rfl)(v:X.N=a:=by rfl)(t:X.calm:=by rfl)(q:O.kind=.function:=by rfl)(h:CK k O a j J:=by decide +kernel)(o:∀z,foldedSetIterable (.Name x p) X.env z=pure z:=by intro _;rfl) :
  QS X (.Return (some (.ListComp be [⟨tg,.Name x p,aS,0⟩] O af)) N) (MD i J.length g rc re):=UN i (YA (tg:=tg) (pv i u)) (λl e _=>⟨W' l e,by rw[ak]⟩) k a j J r n s w v t q h o
end
def og(K:Frag)(as:Ψ)(H:Hp)(b:wb):Prop:=b.length=as.length/\∀(j:Nat)a W,as[j]?=some a->b[j]?=some W->∃J,H a=some (.lst J)/\bV K (hd (· ∈ as) H) J W
abbrev SO:=wb->xj->(wb->Prop)->Prop
def eg(K:Frag)(S:SO):Sp:=λd H Q _=>∃(as:Ψ)(c:wb)(a:Ζ)(W:xj)(R:wb->Prop),d=as.map V.ref++a/\as.Nodup/\og K as H c/\bV K (hd (· ∈ as) H) a W/\S c W R /\
 ∀Y b,R b->z0 (hd (· ∈ as) H) (hd (· ∈ as) Y)->og K as Y b->Q .non Y
def ownL(as:Ψ)(i:Nat):Ψ:=match as[i]? with|some a=>[a]|none=>[]
def JV{i:Nat}(h:b∈ownL as i):as[i]?=some b:=by
 unfold ownL at h;cases e:as[i]? with
 |none=>rw[e]at h;cases h
 |some a=>rw[e]at h;cases YR.mp h;rfl
def Z0{i:Nat}(h:as[i]?=some b):ownL as i=[b]:=by unfold ownL;rw[h]
def Ow.ownL(as:Ψ):Ow (L2.ownL as)=(· ∈ as):=funext λb=>propext ⟨λ⟨i,z⟩=>aC (JV z),λz=>by
 obtain⟨i,e⟩:=aV z;exact⟨i,by rw[Z0 e];simp⟩⟩
def startO(n:Nat)(as:Ψ)(a:wb)(W:xj):xy:=zipWith OT.la as a++start' (n-as.length) W
def SR.startO{H:Hp}{as:Ψ}{g:wb}{k:Ζ}{W:xj}(t:as.Nodup)(h:og K as H g)(r:bV K (hd (· ∈ as) H) k W)(N:Φ)(y:as.length+k.length<=N.length):SR K (ownL as) H (L2.start N (as.map V.ref++k)) (L2.startO N.length as g W):=by
 have c:(zipWith OT.la as g).length=as.length:=by rw[JP,h.1,UV]
 refine⟨?_,λi x e=>?_,λi a b u=>?_,λi j b m w=>KY t (JV m) (JV w)⟩
 .unfold L2.startO start' L2.start;have:=r.len;simp only[aA,ak,aN,c];lia
 .rw[Ow.ownL];unfold L2.startO at e;unfold L2.start;by_cases a:i<as.length
  .rw[aF (by rwa[c]),List.getElem?_zipWith]at e;have f:=aj a;have n:=aj (l:=g) (by rwa[h.1]);rw[f,n]at e;cases e;rw[Z0 f,aF (by simp;exact WS _ a),aq,aF (by simpa using a),aq,f];obtain⟨J,q,o⟩:=h.2 i _ _ f n;exact⟨J,rfl,rfl,q,o⟩
  .have s:ownL as i=[]:=by unfold ownL;rw[aM (Nat.not_lt.mp a)]
   rw[s];rw[aD (by rw[c];exact Nat.not_lt.mp a),c]at e;unfold start' at e;by_cases d:i-as.length<W.length
   .rw[aF (by simpa using d),aq,aj d]at e;cases e;obtain⟨v,m,p⟩:=r.at_ (aj d);have:=r.len;rw[aF (by simp;lia),aq,aD (by simpa using Nat.not_lt.mp a),ak,m];exact⟨rfl,v,rfl,p⟩
   .rw[aD (by simpa using d),ak,X1]at e;split at e
    .cases e;rfl
    .cases e
 .unfold L2.startO at a;rw[aA,c]at a;have:=(ao.mp (JV u)).1;lia
theorem slot_of:∀{o:xy}{i:Nat}{x:OT},o[i]?=some x->slot o i=x
 |[],_,_,e=>by cases e
 |_::_,0,_,e=>by cases e;rfl
 |_::l,i+1,x,e=>slot_of (o:=l) (by simpa using e)
def Fun.okO{x:Str}{N:Φ}{S:SO}(F:Fun K x qual st f fd)(C:bK N ps (bG st))(i:∀d W R,S d W R->d.length+W.length=ps.length)(hn:ps.length<=N.length)
 (bg:∀(p:Value)(A:Around)(c:xt)(s:Shared)(H:Hp)(E:XK),dY k (A.deeper (envOfC qual (bG st) s.zs f p))->N.Nodup ->
   ∃r,e_ (Ls ab P w K mg base N qual (bG st) f p A c s H E).nox (dZ st) r/\∀as d W R,d.length=as.length->S d W R->r { nx:=λo=>∃g,(∀j,slot o j=slot (zipWith OT.la as g) j\/as.length<=j)/\g.length=as.length/\R g,rt:=λ_=>False } (startO N.length as d W)):bW P w K mg base ab (k+1) f fd ps (eg K S):=by
 refine F.ok C (λG H Q E h=>?_) λp A c s H G Q E V h=>?_
 .obtain⟨as,d,L,W,R,rfl,_,l,r,m,_⟩:=h;rw[aA,ak,<- l.1,r.len];exact i _ _ _ m
 .obtain⟨as,d,L,W,R,rfl,T,l,r,m,q⟩:=h;obtain⟨rd,Z,X⟩:=bg p A c s H E V C.nd;have M:=SR.startO T l r N (by rwa[<- l.1,r.len,i _ _ _ m]);refine⟨_,Z,_,_,_,M,X as d W R l.1 m,⟨λown Y I o v E h=>?_,λ_ _ _ _ _ z=>z.elim,λ_ _ _ _ z=>z.elim,λ_ _ _ _ z=>z.elim,λ_ _ _ _ _ _ z=>z.elim⟩⟩;obtain⟨g,es,B,v⟩:=v;rw[Ow.ownL]at E;have D:∀(j:Nat)a t,as[j]?=some a->g[j]?=some t->slot o j=.la a t:=λj a t n y=>by
   rcases es j with z|z
   .rw[z];exact slot_of (by rw[List.getElem?_zipWith,n,y])
   .exact absurd (ao.mp n).1 (Nat.not_lt.mpr z)
  have sub:z0 (hd (Ow own) Y) (hd (· ∈ as) Y):=jT (λb z=>.inl (by
   obtain⟨j,e⟩:=aV z;have U:j<g.length:=B ▸ (ao.mp e).1;obtain⟨u,_,J,_,e3,_⟩:=h.val (D j b _ e (aj U)) (by intro z;cases z);exact⟨j,by rw[e3];simp⟩)) λ_ _ z=>z
  refine q Y g v (E.trans sub) ⟨B,λj a t n y=>?_⟩;obtain⟨u,_,J,_,_,e4,O⟩:=h.val (D j a t n y) (by intro z;cases z);exact⟨J,e4,O.same sub⟩
def D8{o:xy}(h:SR K own H I o)(l:∀a∈as,∃j,own j=[a]):mo H (λb=>Ow own b/\b∉as)/\∀Y:Hp,hd (· ∈ as) (hd (λb=>Ow own b/\b∉as) Y)=hd (Ow own) Y:=by
 have c:∀{b x:Addr}{j:Nat},b∈own j->b∉as->x∈own j->x∉as:=λ{b x j}m n i z=>by
  obtain⟨k,g⟩:=l x z;have:=h.dis j k x i (by rw[g];simp);subst this;rw[g]at m i;cases YR.mp m;exact n z
 refine⟨⟨λb z=>h.sole z.1,λb C d f ⟨⟨j,z⟩,n⟩ e=>⟨⟨j,(h.mate z).1 C d f e⟩,c z n ((h.mate z).1 C d f e)⟩,λb x ⟨⟨j,z⟩,n⟩ e=>⟨⟨j,(h.mate z).2 x e⟩,c z n ((h.mate z).2 x e)⟩⟩,λY=>funext λb=>?_⟩;by_cases z:b∈as
 .obtain⟨k,g⟩:=l b z;rw[sZ z,sZ ⟨k,by rw[g];simp⟩]
 .rw[cY z];by_cases y:Ow own b
  .rw[sZ (⟨y,z⟩ : Ow own b/\b∉as),sZ y]
  .rw[cY (λw=>y w.1),cY y]
def Lm(i:Nat)(S:SO)(r:RA):RS:=λE o=>gS (slot o i) λW c=>r o λas=>S [W] as λa=>match a with|[t]=>E.nx (o.set i (c t))|_=>False
def Oy(i:Nat){x y:Str}{S:SO}(G:dL X.prog X.w X.K X.mg X.base k x ps (eg X.K S))(s:QA X es r)(d:dY k X.A:=by exact dY.mono (by assumption) wf)(hg:Gl X x:=by rfl)(hN:n_X X i y:=by exact⟨rfl,rfl,wf,wf⟩)(cr:qV x:=by decide)
 (B:starEach (.Name y p1::es) X.env=(false,eval (.Name y p1) X.env)::starEach es X.env:=by rfl)(bj:qE X af es:=by rfl)(hs:swapsWith (.Call (.Name x p) (.Name y p1::es) [] af) none N.line X.env=pure false:=by rfl):QS X (.Expr (.Call (.Name x p) (.Name y p1::es) [] af) N) (Lm i S r):=by
 obtain⟨f,fd,F,b,hm,kp⟩:=G;refine(wL (rK (sp:=gm (eg X.K S)) ⟨f,fd,F.hid,b,hm,kp⟩ d hg (f9 (pv i hN) s B) cr B bj) hs).imp λD I H hP=>?_;obtain⟨own,o,E,h,d,L⟩:=hP;obtain⟨W,c,d,es⟩:=H_ d;obtain⟨l,J,P,O,e3,r0,U⟩:=h.l1 es;refine⟨_,P,tQA.mk h d λZ T as q _ g r1=>?_⟩;have C:=h.same g;obtain⟨hid,er⟩:=D8 C (as:=[l]) λa s=>⟨i,by rwa[YR.mp s]⟩;have nl:¬(Ow own l/\l∉[l]):=λz=>z.2 wr;refine⟨_,hid,[l],[W],T,as,_,rfl,by simp,⟨rfl,λj a t M et=>?_⟩,by rw[er];exact r1,q,λG bn m R n Q=>?_⟩
 .cases j with
  |zero=>cases M;cases et;exact⟨J,(cY nl).trans (g _ _ e3),by rw[er];exact r0.same (bU g)⟩
  |succ j=>cases M
 .match bn,m,n with
  |[t],m,n =>
   obtain⟨ys,ey,V⟩:=n.2 0 l t rfl rfl;rw[er]at R;have v:∀{b:Addr}{u:HO},G b=some u->cH (λb=>Ow own b/\b∉[l]) Z G b=some u:=λ{b u}e=>(jZ λz=>by rw[Q b z]at e;cases e).trans e;obtain⟨x,ex⟩:=Nb es;obtain⟨h',S'⟩:=C.chg ex (y:=c t) (Y:=cH (λb=>Ow own b/\b∉[l]) Z G) (λb u hb e=>by
    by_cases z:Ow own b
    .rw[vZ ⟨z,λy=>hb (by rwa[O])⟩];exact e
    .exact v (cW (R b u ((cY z).trans e))).2) (by
    rw[P,O];refine U _ ys t (v ey) (V.same λb u e=>?_);obtain⟨n1,e⟩:=cW e;rw[cY λz=>by rw[Q b ⟨z,n1⟩]at e;cases e];exact v e)
   exact L.nx own _ I _ m ((bU g).trans S') h'
def HL(i j:Nat)(S:SO)(r:RA):RS:=λE o=>gS (slot o i) λW c=>gS (slot o j) λa d=>r o λas=>S [W,a] as λb=>match b with|[t,u]=>E.nx ((o.set i (c t)).set j (d u))|_=>False
def Mz(i j:Nat){x y z:Str}{S:SO}(G:dL X.prog X.w X.K X.mg X.base k x ps (eg X.K S))(s:dY k X.A)(hg:Gl X x)(ha:QA X es r)(jv:i≠j:=by decide)(hN:n_X X i y:=by exact⟨rfl,rfl,wf,wf⟩)(hN2:n_X X j z:=by exact⟨rfl,rfl,wf,wf⟩)(cr:qV x:=by decide)
 (he:starEach (.Name y p1::.Name z p2::es) X.env=(false,eval (.Name y p1) X.env)::starEach (.Name z p2::es) X.env:=by rfl)(he2:starEach (.Name z p2::es) X.env=(false,eval (.Name z p2) X.env)::starEach es X.env:=by rfl)(bj:(backTo af (starEach (.Name z p2::es) X.env)).any (·.1)=false:=by rfl)(hs:swapsWith (.Call (.Name x p) (.Name y p1::.Name z p2::es) [] af) none N.line X.env=pure false:=by rfl):QS X (.Expr (.Call (.Name x p) (.Name y p1::.Name z p2::es) [] af) N) (HL i j S r):=by
 obtain⟨f,fd,F,b,hm,kp⟩:=G;refine(wL (rK (sp:=gm (eg X.K S)) ⟨f,fd,F.hid,b,hm,kp⟩ s hg (f9 (pv i hN) (f9 (pv j hN2) ha he2) he) cr he bj) hs).imp λD I H hP=>?_;obtain⟨own,o,E,h,s,L⟩:=hP;obtain⟨W,c,s,es⟩:=H_ s;obtain⟨us,d,s,P⟩:=H_ s;obtain⟨l,J,e1,e2,e3,r0,sl⟩:=h.l1 es;obtain⟨m,zs,f1,f2,f3,s0,U⟩:=h.l1 P;have lm:l≠m:=λz=>jv (h.dis i j l (by rw[e2];simp) (by rw[f2,z];simp));refine⟨_,e1,_,f1,tQA.mk h s λZ vs as q _ B r1=>?_⟩;have h1:=h.same B;obtain⟨hid,er⟩:=D8 h1 (as:=[l,m]) λa ha=>by
  rcases YU.mp ha with z|z
  .exact⟨i,by rwa[z]⟩
  .exact⟨j,by rwa[YR.mp z]⟩
 have nl:¬(Ow own l/\l∉[l,m]):=λz=>z.2 wr;have nm:¬(Ow own m/\m∉[l,m]):=λz=>z.2 wr;refine⟨_,hid,[l,m],[W,us],vs,as,_,rfl,by simp[lm],⟨rfl,λj a t v O=>?_⟩,by rw[er];exact r1,q,λG bn V EE T aE=>?_⟩
 .match j,v,O with
  |0,v,O=>cases v;cases O;exact⟨J,(cY nl).trans (B _ _ e3),by rw[er];exact r0.same (bU B)⟩
  |1,v,O=>cases v;cases O;exact⟨zs,(cY nm).trans (B _ _ f3),by rw[er];exact s0.same (bU B)⟩
  |j+2,v,_=>cases v
 .match bn,V,T with
  |[t,u],V,T =>
   obtain⟨ys,ey,ry⟩:=T.2 0 l t rfl rfl;obtain⟨ws,ew,mN⟩:=T.2 1 m u rfl rfl;rw[er]at EE;have Q:∀{b:Addr}{u:HO},G b=some u->cH (λb=>Ow own b/\b∉[l,m]) Z G b=some u:=λ{b u}e=>(jZ λz=>by rw[aE b z]at e;cases e).trans e;generalize hM:cH (λb=>Ow own b/\b∉[l,m]) Z G=M at Q;have C:∀b u,b≠l->b≠m->Z b=some u->M b=some u:=λb u R n2 e=>by
    by_cases z:Ow own b
    .rw[<- hM,vZ ⟨z,by simp[R,n2]⟩];exact e
    .exact Q (cW (EE b u ((cY z).trans e))).2
   have g:∀(M':Hp),(∀b,b≠m->M' b=M b)->z0 (hd (· ∈ [l,m]) G) (hd (Ow own) M'):=λM' hM' b u e=>by
    obtain⟨R,e⟩:=cW e;rw[cY (λz=>by rw[aE b ⟨z,R⟩]at e;cases e),hM' b λz=>R (by simp[z])];exact Q e
   obtain⟨x,ex⟩:=Nb es;obtain⟨x2,ex2⟩:=Nb P;obtain⟨h2,S2⟩:=h1.chg ex (y:=c t) (Y:=upd M m (.lst zs)) (λb u hb e=>by
    by_cases z:b=m
    .rw[z,cF];rw[z,B _ _ f3]at e;exact e
    .rw[cA z];exact C b u (λy=>hb (by rw[e2,y];simp)) z e) (by
    rw[e1,e2];exact sl _ ys t ((cA lm).trans (Q ey)) (ry.same (g _ λb n=>cA n)))
   obtain⟨h3,S3⟩:=h2.chg (show(o.set i (c t))[j]?=some x2 by rwa[UT jv]) (y:=d u) (Y:=M) (λb w hb e=>by rw[cA λz=>hb (by rw[f2,z];simp)]at e;exact e) (by
    rw[f1,f2];exact U _ ws u (Q ew) (mN.same (g _ λ_ _=>rfl)))
   exact L.nx own _ I _ V ((bU B).trans (S2.trans S3)) h3
def Mr(g:zh)(c:RT)(e:RE)(o:xy):xj->(wb->Prop)->Prop
 |[],q=>q []
 |t::W,q=>∃(N:xj->Prop)(M:Prop),(∀y,N y->Mr g c e o W λa=>q (y::a))/\(M->Mr g c e o W q)/\g t o λd=>c d λb=>sw b (e d λy=>match y with|.l1 a=>N a|_=>False) M
def ph(b:RI)(n:Nat)(g:zh)(c:RT)(e:RE):RE:=λo q=>b o λJ=>J.length<=sizeLine/\Mr g c e (replicate n .und++o) J λa=>q (.l2 a)
def aaO{o:xy}{f:It}{J:xj}(h1:SR K own Z I o)(wk:ie K f (hd (Ow own) Z) J)(lx:J.length<=sizeLine)(q:Mr g rc re (replicate n .und++o) J λF=>R (.l2 F))(nD:Z D=none)(k:∀Y v x,R x->z0 Z Y->NR K (Ow own) Z Y v x->Q v Y) :
  ∃d:Nat->Nat->Ζ->Hp->Prop,(∃m,d 0 m [] (upd Z D (.lst [])))/\∀i m ys l,d i m ys l ->
   (f.stop i l/\Q (.ref D) l)\/(f.go i l/\∀x Y,f.yld i l x Y->∀r:L2.St,r.length=n->gl (gb K n g) x (r++I) Y λC H2=>∃cy:L2.St,cy.length=n/\C=cy++I/\gj (tQT K rc) C H2 λb T =>
    match b with
    |true=>tM (tQ K re) C T λy H4=>ys.length<sizeLine/\H4 D=some (.lst ys)/\∃m',m'<m/\d (i+1) m' (ys++[y]) (upd H4 D (.lst (ys++[y])))
    |false=>∃m',m'<m/\d (i+1) m' ys T):=by
 generalize hO:replicate n OT.und++o=ob at q;refine⟨λi m ys l=>∃(h:Ψ)(A:wb),ys=h.map V.ref/\l D=some (.lst ys)/\z0 Z l/\(D::h).Nodup/\(∀b∈h,Z b=none)/\h.length=A.length/\(∀(i:Nat)b W,h[i]?=some b->A[i]?=some W->∃J,l b=some (.lst J)/\bV K (hd (λb=>Ow own b\/b∈D::h) l) J W)/\ys.length<=i/\i<=J.length/\m=J.length-i/\Mr g rc re ob (J.drop i) λF=>R (.l2 (A++F)),⟨_,[],[],rfl,cF,z0.upd nD,by simp,λ_ z=>(nomatch z),rfl,(λi b W e=>by cases e),aG _,aZ _,rfl,q⟩,?_⟩;rintro i m ys l ⟨h,A,rfl,eD,L,nd,nb,bl,X,il,ix,rfl,w⟩;have nA:∀a∈D::h,Z a=none:=λa G=>by
  rcases YU.mp G with z|z
  .rw[z];exact nD
  .exact nb a z
 have eA:∀a∈D::h,∃ys,l a=some (.lst ys):=λa G=>by
  rcases YU.mp G with z|z
  .exact⟨_,z ▸ eD⟩
  .obtain⟨j,e⟩:=aV z;have lj:=(ao.mp e).1;obtain⟨P,s,_⟩:=X j a _ e (aj (aR lj (WG bl)));exact⟨P,s⟩
 have hn:∀b,Ow own b\/b∈D::h->l b≠none:=λb z=>z.elim (λz=>((h1.same L).sole z).ne) λe z=>by obtain⟨ys,ey⟩:=eA b e;rw[ey]at z;cases z
 have SD:z0 (hd (Ow own) Z) (hd (λb=>Ow own b\/b∈D::h) l):=jT (λb z=>z.imp id (nA b)) L;obtain⟨w1,w2⟩:=wk (λb=>Ow own b\/b∈D::h) l i hn SD;by_cases hi:i<J.length
 .right;obtain⟨go,yl⟩:=w2 _ (aj hi);rw[ka hi]at w;obtain⟨N,M,hN,hM,w⟩:=w;refine⟨go,λx H2 y r hp=>?_⟩;obtain⟨O,rx⟩:=yl x H2 y;have eO:(λb=>Ow own b\/b∈D::h)=Ow (ownL2 n o.length own (D::h)):=funext λb=>propext Ow.ownL2.symm;have hb:SR K (ownL2 n o.length own (D::h)) H2 (r++I) ob:=by
   have:=h1.blockL (L.trans O) nA (λa G=>let⟨ys,e⟩:=eA a G;⟨ys,O _ _ e⟩) r;rw[hp,hO]at this;exact this
  rw[eO]at rx X;refine⟨_,⟨ownL2 n o.length own (D::h),ob,_,_,hb,rx,w,λfS σ3 o3 q3 i5 h3=>?_⟩,λ_ _ z=>z⟩;obtain⟨cy,dA,rfl⟩:=Uy hp i5;have e3:fS=ownL2 n o.length own (D::h):=funext λj=>by
   rcases i5.1 j with e|⟨t,s⟩
   .exact e
   .rw[s];unfold ownL2;rw[ZY t]
  subst e3;refine⟨cy,dA,rfl,_,tQT.mk h3 q3 λT b q4 U=>?_,λ_ _ z=>z⟩;have q4:sw b (re o3 λy=>match y with|.l1 F=>N F|_=>False) M:=q4;cases b with
  |false=>exact⟨J.length-(i+1),by lia,h,A,rfl,U _ _ (O _ _ eD),L.trans (O.trans U),nd,nb,bl,λj b W t s=>by
    obtain⟨P,ez,rz⟩:=X j b W t s;rw[eO];exact⟨P,U _ _ (O _ _ ez),rz.same (bU (O.trans U))⟩,by exact aL il (X9 _ _),by exact hi,rfl,hM q4⟩
  |true =>
   refine⟨_,⟨_,_,_,h3.same U,q4,λH4 v y q5 E4 r4=>?_⟩,λ_ _ z=>z⟩
   match y,q5,r4 with
   |.l1 F,q5,r4 =>
    obtain⟨B,nB,p,P,ev,rfl,ep,rp⟩:=r4;cases ev;have np:T p=none:=nB p wr;have pn:∀{a:Addr}{u:HO},T a=some u->a≠p:=λe z=>by rw[z,np]at e;cases e
    have E:z0 l T:=O.trans U;have pD:D≠p:=pn (E _ _ eD);have pb:p∉h:=λz=>by
     obtain⟨ys,ey⟩:=eA p (aJ _ z);exact pn (E _ _ ey) rfl
    have inD:∀(H:Hp)(u:HO),hd (λb=>Ow own b\/b∈D::(h++[p])) (upd H D u)=hd (λb=>Ow own b\/b∈D::(h++[p])) H:=λH u=>Hv (S:=λb=>Ow own b\/b∈D::(h++[p])) (.inr wr);refine⟨by lia,E4 _ _ (E _ _ eD),J.length-(i+1),by lia,h++[p],A++[F],by rw[bf];rfl,cF,λb u e=>?_,?_,λb hb=>?_,by simp[bl],λj b W t s=>?_,by rw[aA,length_singleton];exact succ_le_succ il,by exact hi,rfl,?_⟩
    .rw[cA λz=>by rw[z,nD]at e;cases e];exact E4 _ _ (E _ _ (L _ _ e))
    .rw[<- cons_append];exact List.nodup_append.mpr ⟨nd,by simp,λa G c hc z=>by
      rw[YR.mp hc]at z;rcases YU.mp G with y|y
      .exact pD (y.symm.trans z)
      .exact pb (z ▸ y)⟩
    .rcases Y1.mp hb with z|z
     .exact nb b z
     .rw[YR.mp z];exact(L.trans E).free np
    .rw[inD];by_cases hj:j<h.length
     .rw[aF hj]at t;rw[aF (aR hj (WG bl))]at s;obtain⟨P,ez,rz⟩:=X j b W t s;have bD:b≠D:=λz=>(List.nodup_cons.mp nd).1 (z ▸ aC t);refine⟨P,by rw[cA bD];exact E4 _ _ (E _ _ ez),rz.same ?_⟩;rw[<- eO];exact jT (λc z=>by
       rcases z with z|z
       .exact .inl (.inl z)
       .rw[<- cons_append]at z;rcases Y1.mp z with y|y
        .exact .inl (.inr y)
        .rw[YR.mp y];exact .inr (E.free np)) (E.trans E4)
     .rw[aD (VS hj)]at t;rw[aD wp]at s;have j0:j-h.length=0:=by
       have:=(ao.mp t).1;simp at this;omega
      rw[j0]at t;rw[show j-A.length=0 by lia]at s;cases t;cases s;refine⟨_,by rw[cA (Ne.symm pD)];exact ep,rp.same (jT (λc z=>.inl ?_) λ_ _ z=>z)⟩;rcases z with z|z
      .exact .inl (Ow.ownL2.mpr (.inl z))
      .rw[<- cons_append]at z;rcases Y1.mp z with y|y
       .exact .inl (Ow.ownL2.mpr (.inr y))
       .exact .inr y
    .have:=hN _ q5;simp only[WV,List.singleton_append];exact this
 .left;have:i=J.length:=by lia
  refine⟨w1 this,?_⟩;rw[JS (VS hi)]at w;have w:R (.l2 (A++[])):=w;rw[append_nil]at w;exact k l _ _ w L ⟨D::h,nA,D,h,rfl,rfl,nd,eD,bl,X⟩
def Z_(h:tQ K (ph ri n g rc re) I H Q):uI (io K ri) n (gl (gb K n g)) (gj (tQT K rc)) (tM (tQ K re)) I H Q:=by
 obtain⟨own,o,R,h,f,k⟩:=h;exact⟨own,o,_,h,f,λZ a J q b c D e=>aaO (h.same b) c q.1 q.2 e λY v x d E n=>k Y v x d (b.trans E) (n.back b)⟩
def acN:=@ya X tg iter be aS ri g rc re O N ph Z_
def UI{a f:Pos}:=@ye X tg iter be aS ri g rc re O N i0 y0 a f (λi r n g c e=>n' i (ph r n g c e)) λ{_ i0 _ _ _ _ _ _ _ _}⟨own,o,E,h,b,L⟩=>Z_ ⟨own,o,_,h,b,λY v y q S n=>by
 obtain⟨j,d,k⟩:=h.putA S n i0;exact L.nx j Y _ _ q k d⟩
theorem Qa{α:Type}(h:α->T)(f:α->xj){c:RT}{e:RE}{o:xy} : ∀(l:List α){q:wb->Prop},(∀a∈l,∀(N:xj->Prop)(M:Prop),N (f a)->g (h a) o λd=>c d λb=>sw b (e d λy=>match y with|.l1 i=>N i|_=>False) M)->q (l.map f)->Mr g c e o (l.map h) q
 |[],_,_,k=>k
 |a::l,q,st,k=>⟨λy=>y=f a,False,λy z=>Qa h f l (λa j=>st a (aJ _ j)) (z ▸ k),False.elim,st a (aO ..) (λy=>y=f a) False rfl⟩
def Vr{c:RT}{e:RE}{o:xy}{q:wb->Prop}(f:Nat->xj)(n:Nat)(st:∀k,k<n->∀(N:xj->Prop)(M:Prop),N (f k)->g (.int (k:Nat)) o λd=>c d λb=>sw b (e d λy=>match y with|.l1 h=>N h|_=>False) M)(k:q ((range n).map f)):Mr g c e o (rng 0 n) q:=by
 refine Qa (λk:Nat=>.int (0+k)) f (range n) (λa i N M j=>?_) k;have:=st a (List.mem_range.mp i) N M j;show g (.int (0+((a:Nat):Int))) o _;rw[show(0:Int)+((a:Nat):Int)=((a:Nat):Int)by exact Int.zero_add _];exact this
abbrev MK(f:Β):PyData:=.tuple [.int f.1,.int f.2]
abbrev k8(f:Β):T:=.tup [.int f.1,.int f.2]
def XE(K:Frag):V->Ζ->Hp->VK->Prop:=λx c H Q=>∃(l:Addr)(b:V)(J:Ζ)(a:Γ)(f:Β)(j:Nat),x=.ref l/\c=[b]/\H l=some (.lst J)/\J.length=a.length/\(∀(i:Nat)x g,J[i]?=some x->a[i]?=some g->iU K H x (MK g))/\iU K H b (MK f)/\J.length<=sizeLine/\a[j]?=some f/\(∀i g,i<j->a[i]?=some g->g≠f)/\Q (.int (j:Nat)) H
open Classical in
def oz(h:Heap)(f:Β)(v:Value):Bool:=decide (∃as,Reads h v (MK f) as)
open Classical in
def Qq{h:Heap}{v:Value}{g f:Β}(r:Reads h v (MK g) as):oz h f v=(decide (g.1=f.1)&&decide (g.2=f.2)):=by
 unfold oz;by_cases e:g=f
 .subst e;rw[Zs ⟨as,r⟩,Zs rfl,Zs rfl];rfl
 .have i:¬∃as,Reads h v (MK f) as:=λ⟨j,z⟩=>e (by
   have:=SeqAt.Reads.unique _ _ _ _ _ rfl r z;injection this with this;injection this with b a;injection a with a;injection b with b;injection a with a;exact Prod.ext b a)
  rw[Zp i];by_cases d:g.1=f.1
  .by_cases c:g.2=f.2
   .exact absurd (Prod.ext d c) e
   .rw[Zp c,Bool.and_false]
  .rw[Zp d,Bool.false_and]
def abv(hu:X.A.units+64<cLine):mh X "list.index" (XE X.K):=by
 intro U s I H x vs v us Q a N O h;obtain⟨l,b,J,B,f,j,rfl,rfl,Y,lf,fl,Z,T,L,P,q⟩:=h;cases N;obtain⟨u,rfl,t⟩:=O.one;obtain⟨bs,rb⟩:=a.readsK Z t;obtain⟨z,c,n,r,kB,e⟩:=a.lstM Y;have lr:=r.length;have w:∀(i:Nat)(p:i<c.toArray.size),∃g as,B[i]?=some g/\Reads s.heap c.toArray[i] (MK g) as:=λi p=>by
  rw[aX]at p;have G:J[i]?=some (J[i]' wp):=aj _;have M:B[i]?=some (B[i]' wp):=aj _;obtain⟨u,eu,t⟩:=r.get G;obtain⟨as,ra⟩:=a.readsK (fl i _ _ G M) t;refine⟨_,as,M,?_⟩;rwa[List.getElem_toArray,(ao.mp eu).2]
 have lj:=(ao.mp L).1;have C:j<c.toArray.size:=by rw[aX];lia
 rw[sizeLine_eq]at T;refine call_meets F.slot_list_index ⟨_,e,rfl⟩ F.entry_list_index (F.args_list_index_2 _ _) (SeqAt.list_indexAt l c.toArray n _ _ _ (oz s.heap f) j C wp ?_ λm W S=>?_) ⟨e,λy V=>?_,⟨.int _,H,a.tok _,⟨_,rfl⟩,q⟩⟩
 .obtain⟨g,as,o,k⟩:=w j C;rw[L]at o;cases o;rw[Qq k,Zs rfl,Zs rfl];rfl
 .obtain⟨g,as,o,k⟩:=w m W;have R:=P m g S o;rw[Qq k];by_cases E:g.1=f.1
  .by_cases D:g.2=f.2
   .exact absurd (Prod.ext E D) R
   .rw[Zp D,Bool.and_false]
  .rw[Zp E,Bool.false_and]
 .obtain⟨i,p,ei⟩:=Array.getElem_of_mem V;obtain⟨g,as,o,k⟩:=w i p;rw[<- ei,Qq k,<- De];exact SeqAt.eqAt_reads _ _ _ _ _ _ _ _ k rb rfl rfl (by
   have d:(MK g).depth<=3:=TZ rfl;have m:=min_le_left (MK g).depth (MK f).depth;show X.A.units+1+min (MK g).depth (MK f).depth<cLine;lia)
def LV(a:RE)(r:RA):RE:=λo q=>a o λx=>match frz x with
 |.lst W=>r o λc=>∃(b:Γ)(f:Β)(j:Nat),W=b.map k8/\c=[k8 f]/\b.length<=sizeLine/\b[j]?=some f/\(∀i g,i<j->b[i]?=some g->g≠f)/\q (.fz (.int (j:Nat)))
 |_=>False
def OP{o e:Expr}{n:Pos}(D:X.A.units+64<cLine)(L:QE X o ra)(P:QA X [e] r)(O:attributeBase o "index" X.env (eval o X.env)=eval o X.env:=by rfl)
 (N:zk X af e:=by rfl)
 (M:ze n af:=by rfl)(E:qS X e []:=by rfl)(K:qE X af []:=by rfl) :
  QE X (.Call (.Attribute o "index" n) [e] [] af) (LV ra r):=by
 refine(pz PySem.F.plainAttrs_list PySem.F.slot_list_index PySem.F.type_list_index (abv D) L.mono P.mono O N M E K).imp λI H Q S=>?_;obtain⟨own,o,R,h,G,k⟩:=S;refine⟨_,tQ.mk h G λZ v x q t d=>?_,λ_ _ z=>z⟩;cases a:frz x with
 |lst W =>
  rw[a]at q d;obtain⟨p,J,rfl,e,b⟩:=d.lstI;refine⟨.inl ⟨rfl,_,SqL.of (dW _ _ e)⟩,_,tQA.mk (h.same t) q λs Y us q2 _ c B=>?_,λ_ _ z=>z⟩;obtain⟨l,f,j,rfl,rfl,lf,T,C,q3⟩:=q2;obtain⟨y,rfl,u⟩:=B.one;have V:z0 (hd (Ow own) Z) s:=(bU c).trans dW;refine⟨p,y,J,l,f,j,rfl,rfl,c _ _ (dW _ _ e),by rw[b.len,ak],λi x g a U=>?_,(u.shows _ rfl rfl).same dW,by rw[b.len,ak];exact lf,T,C,k s _ _ q3 (t.trans c) (NR.fz (.int _))⟩;obtain⟨v,m,w⟩:=b.at_ (show(l.map k8)[i]?=some (k8 g)by rw[aq,U];rfl);rw[a]at m;cases m;exact(w.shows _ rfl rfl).same V
 |_=>rw[a]at q;exact q.elim
theorem bV.strs{K:Frag}{F:Hp} : ∀{J:Ζ}{ys:Φ},bV K F J (ys.map T.str)->J=ys.map V.str
 |_,[],h=>by cases h;rfl
 |_,y::ys,h=>by
  cases h with
  |cons a b =>
   cases a;rw[bV.strs b];rfl
def GB(a:RE)(r:RA):RE:=λo q=>a o λx=>match frz x with
 |.str s=>r o λb=>∃ys:Φ,b=[.lst (ys.map T.str)]/\(ys.map (·.length)).sum+ys.length*s.length<=16777216/\q (.fz (.str (Txt.join s ys)))
 |_=>False
def TD{o e:Expr}{c:Pos}(t:QE X o ra)(A:QA X [e] r)(z:attributeBase o "join" X.env (eval o X.env)=eval o X.env:=by rfl)
 (w:zk X af e:=by rfl)
 (u:ze c af:=by rfl)(l:qS X e []:=by rfl)(n:qE X af []:=by rfl) :
  QE X (.Call (.Attribute o "join" c) [e] [] af) (GB ra r):=by
 refine(NI PySem.F.slot_str_join PySem.F.type_str_join _q t A z w u l n).imp λI H Q B=>?_;obtain⟨own,o,R,h,m,k⟩:=B;refine tQ.mk h m λZ v x q d a=>?_;cases b:frz x with
 |str s =>
  rw[b]at q a;cases a;refine⟨⟨s,rfl⟩,tQA.mk (h.same d) q λC E G q2 _ D i=>?_⟩;obtain⟨ys,rfl,j,q3⟩:=q2;obtain⟨y,rfl,f⟩:=i.one;obtain⟨p,J,rfl,e,g⟩:=f.lstI;exact⟨s,p,ys,rfl,rfl,g.strs ▸ (cW e).2,j,k C _ _ q3 (d.trans D) (NR.fz (.str _))⟩
 |_=>rw[b]at q;exact q.elim
def notStar:Expr->Bool
 |.Starred ..=>false
 |_=>true
def Sk{e:Expr}{env:Env}(h:notStar e):starEach (e::es) env=(false,eval e env)::starEach es env:=by
 cases e<;>first|rfl|cases h
structure fv(X:Cx)(e:Expr)(r:RE):Prop where
 out:QE X e r
structure kt(X:Cx)(es:xw)(r:RA):Prop where
 out:QA X es r
def Il{e:Expr}{r:RE}(h:QE X e r):fv X e r:=⟨h⟩
def ZX{i j N} : fv X (.Constant (.int i) j N) (rC (.int i)):=⟨bA⟩
def ON(i:Nat){x:Str}(b:n_X X i x:=by exact⟨rfl,rfl,wf,wf⟩):fv X (.Name x N) (gz i):=⟨qv i b⟩
def PV{op:Operator}{g:zn}{b:Expr}(c:GO X (binaryOp op) g)(e:fv X a ra)(d:fv X b rb):fv X (.BinOp a op b N) (fF g ra rb):=⟨bL c e.out d.out⟩
def vV:kt X [] n4:=⟨bC⟩
def iy{e:Expr}{a:RE}(d:fv X e a)(b:kt X es r)(c:notStar e:=by rfl):kt X (e::es) (DC a r):=⟨bx d.out b.out (Sk c)⟩
def G4(h:kt X es r)(a:es.length<=sizeLine:=by decide):fv X (.Tuple es k N) (u1 r):=⟨dB h.out a⟩
def EU(h:kt X es r)(a:es.length<=sizeLine:=by decide):fv X (.List es N) (uj r):=⟨eG h.out a⟩
def OA:zn
 |.int i,.int j,q=>afC i j/\q (.fz (.int (i*j)))
 |_,_,_=>False
def Fu:GO X (binaryOp .Mult) OA:=SL.imp λx y H Q d=>by
 obtain⟨S,t,u,R,_,c,b,a,k⟩:=d;cases c<;>try exact a.elim
 cases b<;>try exact a.elim
 exact⟨_,_,rfl,rfl,a.1,k H _ _ a.2 (.refl _) (NR.fz (.int _))⟩
def Kx(n:Nat)(a:zt):zh
 |.lst W,o,q=>W.length=n/\a W o q
 |_,_,_=>False
def PH{m:Nat}{c:zt}(hc:X.calm)(h:kr X m es c)(d:(assignEach es X.env).length=n:=by rfl)(g:zi X es:=by rfl):QG X m (.Tuple es k N) (Kx n c):=(_4 hc h d g).imp λv I H Q f=>by
 obtain⟨own,o,t,R,h,r,b,k⟩:=f;cases t<;>try exact b.elim
 obtain⟨a,J,rfl,e,r⟩:=r.lstI;exact⟨a,J,rfl,SqL.of (dW _ _ e),r.len.trans b.1,own,o,_,R,h,r,b.2,k⟩
section
variable{a b c d e f x y:RS}{E:DT}{o:xy}
def F7(J:xy->Prop)(k:∀d,J d->y E d)(h:∀Y:xy->Prop,(∀d,J d->Y d)->oO a (oO b (oO c (oO x (λ_=>Y)))) E o):oO a (oO b (oO c (oO x y))) E o:=h (y E) k
def F6(J:xy->Prop)(k:∀g,J g->y E g)(h:∀Y:xy->Prop,(∀g,J g->Y g)->oO a (oO b (oO c (oO d (oO e (oO f (oO x (λ_=>Y))))))) E o):oO a (oO b (oO c (oO d (oO e (oO f (oO x y)))))) E o:=h (y E) k
end
def tf(a:Hp->V->Prop):Prop:=∀F b u,z0 F b->a F u->a b u
section
variable{K:Frag}{own:Nat->Ψ}{H:Hp}{I:L2.St}{o:xy}
def SR.gh(h:SR K own H I o){i:Nat}{a:Hp->V->Prop}{t:T}(e:slot o i=.gh a t):∃u,tf a/\I[i]?=some (some u)/\a (hd (Ow own) H) u/\Rep K (hd (Ow own) H) u t:=by
 obtain⟨u,c,_,st,w,b,p,r⟩:=h.val e (by intro z;cases z);cases b;exact⟨u,st,c,p,r⟩
def SR.toGh(h:SR K own H I o){i:Nat}{c:Hp->V->Prop}(st:tf c)(e:slot o i=.fz t)(p:∀u,I[i]?=some (some u)->c (hd (Ow own) H) u):SR K own H I (o.set i (.gh c t)):=by
 have d:=iQ e (by intro z;cases z);have k:=(ao.mp d).1;refine⟨by rw[VT,h.len],λj y b=>?_,λj g=>h.out j (by rwa[VT]at g),h.dis⟩;by_cases z:j=i
 .subst z;rw[Tx k]at b;cases b;obtain⟨u,f,r⟩:=h.get d;obtain⟨a,_⟩:=h.sl j _ d;rw[f];exact⟨a,st,u,rfl,p u f,r⟩
 .rw[UT (Ne.symm z)]at b;exact h.sl j y b
end
def Nt(F G:Hp):Prop:=∀b u,(∀t,u≠HO.tbl t)->F b=some u->G b=some u
variable{a:Addr}{φ:T->Hp->V->Prop}
section
variable{K:Frag}{F G:Hp}
def Nt.rd(e:Nt F G)(n:∀t,u≠HO.tbl t)(h:Rd F a u):Rd G a u:=h.imp (e _ _ n) λb=>by obtain⟨o,r⟩:=b;exact⟨o,e _ _ (λ_ z=>(nomatch z)) r⟩
def Nt.tup(e:Nt F G){a:Addr}{J:Ζ}(h:SqT K F a J):SqT K G a J:=h.imp (e.rd λ_ z=>(nomatch z)) id
def Nt.seq(e:Nt F G)(h:SqL K F a J):SqL K G a J:=h.imp (e.rd λ_ z=>(nomatch z)) id
def Nt.l(e:Nt F G)(h:F a=some (.lst J)):G a=some (.lst J):=e _ _ (λ_ z=>(nomatch z)) h
def Nt.d(e:Nt F G){l:xF}(h:Rd F a (.dK l)):Rd G a (.dK l):=e.rd (λ_ z=>(nomatch z)) h
def Nt.i(e:Nt F G){C d:Addr}{l:xn}(h:F a=some (.ins C d l)):G a=some (.ins C d l):=e _ _ (λ_ z=>(nomatch z)) h
def Nt.o(e:Nt F G){x:Addr}(h:F a=some (.own x)):G a=some (.own x):=e _ _ (λ_ z=>(nomatch z)) h
def Nt.e(e:Nt F G){a C:Addr}{d:Ξ}(h:F a=some (XO a C d)):G a=some (XO a C d):=e _ _ (λ_ z=>(nomatch z)) h
def Nt.x(e:Nt F G):∀{d:Ξ}{l:xn},abz F d l->abz G d l
 |none,_,x=>x
 |some _,_,x=>e _ _ (λ_ z=>(nomatch z)) x
mutual
theorem Rep.nt(e:Nt F G):∀{x:V}{t:T},Rep K F x t->Rep K G x t
 |_,_,.any v=>.any v
 |_,_,.non=>.non
 |_,_,.bl b=>.bl b
 |_,_,.int i=>.int i
 |_,_,.str s=>.str s
 |_,_,.val v=>.val v
 |_,_,.tup s h=>.tup (e.tup s) (bV.nt e h)
 |_,_,.lst s h=>.lst (e.l s) (bV.nt e h)
 |_,_,.scr s h=>.scr (e.seq s) (bV.nt e h)
 |_,_,.dct s l h=>.dct (e.d s) l (bV.nt e h)
 |_,_,.ins s d l h=>.ins (e.i s) (e.o d) l (bV.nt e h)
 |_,_,.exc s x l h=>.exc (e.e s) (e.x x) l (bV.nt e h)
theorem bV.nt(e:Nt F G):∀{J:Ζ}{W:xj},bV K F J W->bV K G J W
 |_,_,.nil=>.nil
 |_,_,.cons h t=>.cons (Rep.nt e h) (bV.nt e t)
end
def SR.leap{c:L2.St}{o d:xy}(h:SR K own H I o)(e:Nt H Y)(l:d.length=c.length)(f:∀(i:Nat)x,d[i]?=some x->x=.und\/∃t,x=.fz t/\(o[i]?=some x/\c[i]?=I[i]?\/∃u,c[i]?=some (some u)/\Rep K Y u t)):SR K (λ_=>[]) Y c d:=by
 refine⟨l,λi x m=>?_,λ_ _ _ z=>(nomatch z),λi j a z=>(nomatch z)⟩;rw[Ca];rcases f i x m with rfl|⟨t,rfl,⟨k,es⟩|⟨u,es,r⟩⟩
 .rfl
 .obtain⟨_,u,g,r⟩:=h.sl i _ k;rw[es];exact⟨rfl,u,g,Rep.nt (λb w n z=>e b w n (cW z).2) r⟩
 .rw[es];exact⟨rfl,u,rfl,r⟩
end
def FB(φ:T->Hp->V->Prop):Prop:=∀t F a u,z0 F a->φ t F u->φ t a u
def gp(K:Frag)(φ:T->Hp->V->Prop)(j:Nat)(S:ST):Sp:=λa H Q _=>∃u t W R,a[j]?=some u/\W[j]?=some t/\φ t H u/\bV K H a W/\S W R/\∀Y v x,R x->z0 H Y->NR K (λ_=>False) H Y v x->Q v Y
abbrev hE(P:Program)(w:World)(K:Frag)(mg:Str->Ω)(base:Heap)(φ:T->Hp->V->Prop)(k:Nat)(x:Str)(ps:Φ)(S:ST):Prop:=dL P w K mg base k x ps (gp K φ 0 S)
def Pa{G:Hp}{o:xy}{x:OT}(l:SR K own Z I o)(g:z0 H Z)(j:∀Y v x,R x->z0 H Y->NR K (Ow own) H Y v x->Q v Y)(h:R x)(E:z0 (hd (Ow own) Z) G)(n:NR K (λ_=>False) (hd (Ow own) Z) G v x)(d:∀b,Ow own b->G b=none):Q v (cH (Ow own) Z G):=by
 have k:z0 Z (cH (Ow own) Z G):=λb u e=>by
  by_cases z:Ow own b
  .rw[vZ z];exact e
  .rw[jZ z];exact E b u ((cY z).trans e)
 have f:z0 G (cH (Ow own) Z G):=λb u e=>by rw[jZ λz=>by rw[d b z]at e;cases e];exact e
 refine j _ v x h (g.trans k) (NR.back (H:=Z) ?_ g);obtain⟨B,i,s⟩:=n;have out:∀a∈B,¬Ow own a:=λa c z=>(s.sole c).ne (d a z);refine⟨B,λa c=>by have:=i a c;rwa[cY (out a c)]at this,s.same (jT (λb z=>?_) f) f⟩;rcases z with z|z
 .exact .inr (d b z)
 .exact .inl (.inr z)
def qi(i:Nat):RE:=λo q=>match slot o i with|.gh _ t=>q (.fz t)|_=>False
variable{x:Str}{e:Expr}
def iv(i:Nat)(d:n_X X i x:=by exact⟨rfl,rfl,wf,wf⟩):QE X (.Name x N) (qi i):=(pv i d).imp λI H Q c=>by
 obtain⟨own,o,R,h,a,k⟩:=c;unfold qi at a;cases e:slot o i with
 |gh φ t =>
  rw[e]at a;obtain⟨u,_,q,_,r⟩:=h.gh e;exact⟨u,q,k H u _ a (.refl _) (NR.fz r)⟩
 |_=>rw[e]at a;exact a.elim
def EF(i:Nat)(φ:T->Hp->V->Prop)(S:ST)(r:RA):RE:=λo q=>match slot o i with|.gh a t=>a=φ t/\r o λW=>S (t::W) q|_=>False
def Aq{d:Pos}(i:Nat)(G:hE X.prog X.w X.K X.mg X.base φ k x ps S)(C:dY k X.A)(J:Gl X x)(L:QA X es r)(O:n_X X i y0:=by exact⟨rfl,rfl,wf,wf⟩)(T:qV x:=by decide)
 (g:starEach (.Name y0 d::es) X.env=(false,eval (.Name y0 d) X.env)::starEach es X.env:=by rfl)(U:qE X N es:=by rfl):QE X (.Call (.Name x p) (.Name y0 d::es) [] N) (EF i φ S r):=by
 obtain⟨f,fd,F,b,D,y⟩:=G;refine(rK (sp:=gm (gp X.K φ 0 S)) ⟨f,fd,F.hid,b,D,y⟩ C J (f9 (pv i O) L g) T g U).imp λI H Q M=>?_;obtain⟨own,o,R,h,a,z⟩:=M;unfold EF at a;cases e:slot o i with
 |gh ψ t =>
  rw[e]at a;obtain⟨rfl,a⟩:=a;obtain⟨u,st,P,s,l⟩:=h.gh e;refine⟨u,P,tQA.mk h a λZ vs W q _ c m=>⟨Ow own,(h.same c).hid,u,t,t::W,R,rfl,rfl,st _ _ _ (bU c) s,.cons (l.same (bU c)) m,q,λG v x j E n Y=>Pa (h.same c) c z j E n Y⟩⟩
 |_=>rw[e]at a;exact a.elim
def jS(K:Frag)(frees:Ζ)(S:ST):Sp:=λa H Q E=>a.length=1/\am K S (frees++a) H Q E
def Rc(i:Nat)(a:Hp->V->Prop)(f:Addr)(b:xj)(S:ST)(r:RA):RE:=λo q=>slot o i=.gh a (.val (.ref f))/\r o λW=>S (b++W) q
def aco{frees:Ζ}{c:xj}{g:Hp->V->Prop}(i:Nat)(d:∀F u,g F u->bV X.K F frees c)(G:ij X.prog X.w X.K X.mg X.base k f ps (jS X.K frees S))(C:dY k X.A)(L:QA X [e] r)(M:n_X X i x:=by exact⟨rfl,rfl,wf,wf⟩)
 (J:qS X e []:=by rfl)(Y:qE X N []:=by rfl):QE X (.Call (.Name x p) [e] [] N) (Rc i g f c S r):=by
 obtain⟨fd,y,F,b,P,O⟩:=G;refine(abN (sp:=gm (jS X.K frees S)) ⟨fd,y,F.hid,b,P,O⟩ C (pv i M) L J Y).imp λI H Q ⟨own,o,R,h,⟨T,D⟩,z⟩=>?_;obtain⟨u,st,U,t,s⟩:=h.gh T;cases s;exact⟨_,U,rfl,tQA.mk h D λZ vs W q l a j=>⟨Ow own,(h.same a).hid,by rw[j.len,l];rfl,c++W,R,(d _ _ (st _ _ _ (bU a) t)).app j,q,λG v x m E n aE=>Pa (h.same a) a z m E n aE⟩⟩
def afd.ok{i:Addr}(h:afd K mg x st ps i)
 (j:∀f fd c,Fun K x x st f fd->fd.code=.ref c->codeHdIn K c i=true->bW P w K mg base ab k f fd ps sp):dL P w K mg base k x ps sp:=by
 obtain⟨f,fd,c,a,b,d,e,g⟩:=h;exact⟨f,fd,j f fd c a e g,.all b,d,a.kp⟩
def bW.ex{sp:α->Sp}(F:∀a,bW P w K mg base ab k f fd ps (sp a)):bW P w K mg base ab k f fd ps λc H Q E=>∃a,sp a c H Q E :=
 ⟨λc H Q E e=>by obtain⟨a,h⟩:=e;exact(F a).len c H Q E h,λA b s H d g c Q E i l j r e=>by obtain⟨a,h⟩:=e;exact(F a).run A b s H d g c Q E i l j r h⟩
def bW.andL{c:Prop}(F:c->bW P w K mg base ab k f fd ps sp):bW P w K mg base ab k f fd ps λb H Q E=>c/\sp b H Q E :=
 ⟨λb H Q E h=>(F h.1).len b H Q E h.2,λA a s H d e b Q E g j i r h=>(F h.1).run A a s H d e b Q E g j i r h.2⟩
def Fun.okC{N:Φ}{c:Addr}(F:Fun K x qual st f fd)(e:fd.code=.ref c)(S:bK N ps (bG st))(d:∀b H Q E,sp b H Q E->b.length=ps.length)
 (l:∀(A:Around)(a:xt)(s:Shared)(H:Hp)(b:Ζ)(Q:VK)(E:XK),dY k (A.deeper (envOfC qual (bG st) s.zs f (.ref c)))->sp b H Q E ->
   ∃t,PSs (Ls ab P w K mg base N qual (bG st) f (.ref c) A a s H E).nox (dZ st) t/\t { nx:=λ_ Y=>Q .non Y,rt:=Q } (L2.start N b) H):bW P w K mg base ab (k+1) f fd ps sp:=by
 obtain⟨r,p,kV,y,o,z,m,v,u,rfl,g,n⟩:=F.ex;have e:m=.ref c:=e;subst e;refine CY g n S d λA a s H b Q E i j=>?_;obtain⟨t,h,q⟩:=l A a s H b Q E i j;exact⟨t,h.nox,q⟩
def Fun.okG{N:Φ}(j:Nat)(c:FB φ)(F:Fun K x qual st f fd)(y:bK N ps (bG st))(g:∀W R,S W R->W.length=ps.length)
 (T:∀(b:Value)(A:Around)(a:xt)(s:Shared)(H:Hp)(E:XK),dY k (A.deeper (envOfC qual (bG st) s.zs f b)) ->
   ∃r,e_ (Ls ab P w K mg base N qual (bG st) f b A a s H E).nox (dZ st) r/\∀W t R,W[j]?=some t->S W R->r { nx:=λ_=>R (.fz .non),rt:=R } ((start' N.length W).set j (.gh (φ t) t))):bW P w K mg base ab (k+1) f fd ps (gp K φ j S):=by
 refine F.ok y (λn H Q E h=>?_) λb A a s H n Q E G h=>?_
 .obtain⟨u,t,W,R,_,_,_,r,i,_⟩:=h;exact r.len.trans (g W R i)
 .obtain⟨u,t,W,R,O,l,X,r,i,q⟩:=h;obtain⟨rd,M,L⟩:=T b A a s H E G;have m:=Ca (H:=H);have p:=Ec q;have D:=(ao.mp l).1;have C:j<n.length:=by rwa[r.len]
  refine⟨_,M,λ_=>[],_,_,?_,L W t R l i,⟨λown Y I o d E h=>?_,λU Y v x B d E s J=>p U Y v x B d (m ▸ E) s J,λ_ _ _ _ z=>z.elim,λ_ _ _ _ z=>z.elim,λ_ _ _ _ _ _ z=>z.elim⟩⟩
  .refine(SR.start r N).toGh (c t) ?_ λV e=>?_
   .refine slot_of ?_;unfold start';rw[aF (by simpa using D),aq,l];rfl
   .unfold L2.start at e;rw[aF (by simpa using C),aq,O]at e;cases e;rwa[m]
  .exact p (Ow own) Y .non _ [] d (m ▸ E) ⟨rfl,_,rfl,.non⟩ λ_ z=>(nomatch z)
end L2
namespace Ac
def lw(t b:Int):Int×Int:=(t/(Int.gcd t b:Nat),b/(Int.gcd t b:Nat))
def Be{t b:Int}(a:0<b):(0:Int)<(Int.gcd t b:Nat):=by
 have:=lR t (show b≠0 by exact WP a);lia
section
variable{κ:Type}[DecidableEq κ]
def look(a:List (κ×Int))(r:κ):Int:=((a.find? λg=>decide (g.1=r)).map (·.2)).getD 0
def put(a:List (κ×Int))(r:κ)(y:Int):List (κ×Int):=if(a.any λg=>decide (g.1=r))=true then a.map (λg=>if g.1=r then(g.1,y)else g)else a++[(r,y)]
def LS(b:List (κ×Int)):List (κ×Int):=b.foldl (λa g=>put a g.1 (look a g.1+g.2)) []
def ways(a:List (κ×Int))(S:Int):List (κ×Int×Int):=((LS a).filter λg=>decide (0<g.2)).map λg=>(g.1,lw g.2 S)
end
end Ac
namespace Rw
open Ac
def rep(r:List Int×Int):Γ:=r.1.map λt=>lw t r.2
def ba(a:xm)(b:Int):Int:=a.foldl (λc t=>((Int.gcd t c:Nat):Int)) b
theorem iT:∀{ts:xm}{b:Int},0<b->0<ba ts b
 |[],_,h=>h
 |t::ts,b,h=>iT (ts:=ts) (Be (t:=t) h)
theorem iM:∀{ts:xm}{b:Int},ba ts b ∣ b/\∀t∈ts,ba ts b ∣ t
 |[],b=>⟨Int.dvd_refl b,by simp⟩
 |t::ts,b=>by
  obtain⟨c,d⟩:=iM (ts:=ts) (b:=((Int.gcd t b:Nat):Int));refine⟨Int.dvd_trans c (QR t b),λx a=>?_⟩;rcases YU.mp a with rfl|a
  .exact Int.dvd_trans c (Int.gcd_dvd_left x b)
  .exact d x a
def ur{ts:xm}{b:Int}(h:0<b):ba ts b<=b:=Int.le_of_dvd h iM.1
def jC(r:List Int×Int):List Int×Int:=(r.1.map λt=>t/ba r.1 r.2,r.2/ba r.1 r.2)
def mH(r:List Int×Int):(jC r).1.length=r.1.length:=by unfold jC;rw[ak]
def jw(r:List Int×Int)(c:Β):List Int×Int:=(r.1.map λt=>t*c.1,r.2*c.2)
def pN(r o:List Int×Int)(c:Β):List Int×Int :=
 (zipWith (λa b=>a*(o.2*c.2/((Int.gcd r.2 (o.2*c.2):Nat):Int))+b*(r.2/((Int.gcd r.2 (o.2*c.2):Nat):Int)*c.1)) r.1 o.1,r.2*(o.2*c.2/((Int.gcd r.2 (o.2*c.2):Nat):Int)))
structure Big(N:Nat)(r:List Int×Int):Prop where
 pos:0<r.2
 bot:r.2.natAbs<=N
 top:∀t∈r.1,t.natAbs<=N
variable{N:Nat}{R':Nat->Nat->Rat}
def Big.le{M:Nat}{r:List Int×Int}(h:Big N r)(a:N<=M):Big M r:=⟨h.pos,aL h.bot a,λt b=>aL (h.top t b) a⟩
def Uw{d t g x:Int}(b:d ∣ t*x)(a:d ∣ g*x):d ∣ ((Int.gcd t g:Nat):Int)*x:=by
 have h:=Int.dvd_coe_gcd b a;rw[Int.gcd_mul_right]at h;rw[Ts]at h;rcases Int.natAbs_eq x with e|e
 .rw[e];exact h
 .rw[e,Int.mul_neg];exact Int.dvd_neg.mpr h
theorem z_{d x:Int} : ∀{ts:xm}{b:Int},d ∣ b*x->(∀t∈ts,d ∣ t*x)->d ∣ ba ts b*x
 |[],_,h,_=>h
 |t::ts,b,h,k=>z_ (ts:=ts) (Uw (k t aO) h) λu a=>k u (aJ _ a)
def Alk(r s:List Int×Int):Prop:=r.1.length=s.1.length/\∀(k:Nat)(a b:Int),r.1[k]?=some a->s.1[k]?=some b->a*s.2=b*r.2
def oA{r:List Int×Int}(h:0<r.2):ba (jC r).1 (jC r).2=1:=by
 have d:=iT (ts:=r.1) h;obtain⟨f,k⟩:=iM (ts:=r.1) (b:=r.2);have p:0<(jC r).2:=l4 h (XY d) f;have l:=iT (ts:=(jC r).1) p;obtain⟨j,i⟩:=iM (ts:=(jC r).1) (b:=(jC r).2);have g:ba (jC r).1 (jC r).2*ba r.1 r.2 ∣ ba r.1 r.2*1:=by
  refine z_ ?_ λt e=>?_
  .obtain⟨u,c⟩:=j;have c:r.2/ba r.1 r.2=ba (jC r).1 (jC r).2*u:=c;refine⟨u,?_⟩;rw[T1,Int.mul_right_comm,<- c,Int.ediv_mul_cancel f]
  .obtain⟨u,c⟩:=i (t/ba r.1 r.2) (YV.mpr ⟨t,e,rfl⟩);refine⟨u,?_⟩;rw[T1,Int.mul_right_comm,<- c,Int.ediv_mul_cancel (k t e)]
 rw[T1]at g;have:=Int.le_of_dvd d g;have:ba (jC r).1 (jC r).2<=1:=by
  refine Int.le_of_mul_le_mul_right (a:=ba r.1 r.2) ?_ d;lia
 lia
def least{r s:List Int×Int}(i:0<r.2)(g:ba r.1 r.2=1)(a:Alk r s)(h:Big N s):Big N r:=by
 have d:r.2 ∣ ba r.1 r.2*s.2:=z_ ⟨s.2,rfl⟩ λt f=>by
  obtain⟨k,l,rfl⟩:=List.mem_iff_getElem.mp f;have c:k<s.1.length:=by rwa[<- a.1]
  rw[a.2 k _ _ (aj l) (aj c)];exact⟨_,Int.mul_comm _ _⟩
 rw[g,JJ]at d;obtain⟨m,j⟩:=d;have n:0<m:=Int.pos_of_mul_pos_right (by rw[<- j];exact h.pos) i;refine⟨i,?_,λt f=>?_⟩
 .have:=Int.le_of_dvd h.pos ⟨m,j⟩;have:=h.bot;lia
 .obtain⟨k,l,rfl⟩:=List.mem_iff_getElem.mp f;have c:k<s.1.length:=by rwa[<- a.1]
  have e:=a.2 k _ _ (aj l) (aj c);rw[j,Int.mul_comm r.2 m,<- Int.mul_assoc]at e;have e:=Int.eq_of_mul_eq_mul_right (WP i) e;have b:=h.top _ (aU c);rw[<- e,VW]at b;exact aL (Nat.le_mul_of_pos_right _ (by omega)) b
def gr(N:Nat):Nat->Nat
 |0=>N
 |m+1=>2*(gr N m*gr N m)
def sg(f:Nat->Rat):Nat->Rat
 |0=>0
 |n+1=>sg f n+f n
def sz(f:Nat->Int):Nat->Int
 |0=>0
 |n+1=>sz f n+f n
theorem iz(f g:Nat->Rat):∀n,sg (λj=>f j+g j) n=sg f n+sg g n
 |0=>by unfold sg;grind
 |n+1=>by unfold sg;rw[iz f g n];grind
theorem gw(c:Rat)(f:Nat->Rat):∀n,sg (λj=>c*f j) n=c*sg f n
 |0=>by unfold sg;grind
 |n+1=>by unfold sg;rw[gw c f n];grind
theorem bZ{f g:Nat->Rat} : ∀{n},(∀j,j<n->f j=g j)->sg f n=sg g n
 |0,_=>rfl
 |n+1,h=>by unfold sg;rw[bZ λj a=>h j (WS _ a),h n (X2 _)]
theorem iK:∀n,sg (λ_=>0) n=0
 |0=>rfl
 |n+1=>by unfold sg;rw[iK n];grind
theorem jt{v:Nat->Rat}{k:Nat} : ∀{n},sg (λj=>(if j=k then 1 else 0)*v j) n=if k<n then v k else 0
 |0=>by rw[ZZ (WU _)];rfl
 |n+1=>by
  unfold sg;rw[jt];by_cases h:k<n
  .rw[ZY h,ZZ (UK h),ZY (WS _ h)];grind
  .by_cases e:n=k
   .subst e;rw[ZZ h,ZY rfl,ZY (X2 _)];grind
   .rw[ZZ h,ZZ e,ZZ wp];grind
theorem Zw(f:Nat->Nat->Rat)(m:Nat):∀n,sg (λk=>sg (λl=>f k l) m) n=sg (λl=>sg (λk=>f k l) n) m
 |0=>by
  show(0:Rat)=sg (λ_=>0) m;rw[iK]
 |n+1=>by
  show sg (λk=>sg (λl=>f k l) m) n+sg (λl=>f n l) m=sg (λl=>sg (λk=>f k l) n+f n l) m;rw[iz,Zw f m n]
theorem Kf(f:Nat->Int):∀n,((sz f n:Int):Rat)=sg (λk=>(f k:Rat)) n
 |0=>intCast_zero
 |n+1=>by unfold sz sg;rw[Rat.intCast_add,Kf f n]
theorem Mw{f:Nat->Int}{B:Nat} : ∀{n},(∀k,k<n->(f k).natAbs<=B)->(sz f n).natAbs<=n*B
 |0,_=>by unfold sz;simp
 |n+1,h=>by
  unfold sz;have:=Mw (n:=n) λk a=>h k (WS _ a);have:=h n (X2 _);rw[add_mul,Nat.one_mul];omega
theorem DS(f g:Nat->Int):∀n,sz (λk=>f k-g k) n=sz f n-sz g n
 |0=>rfl
 |n+1=>by unfold sz;rw[DS f g n];lia
theorem Uv{f g:Nat->Int} : ∀{n},(∀j,j<n->f j=g j)->sz f n=sz g n
 |0,_=>rfl
 |n+1,h=>by unfold sz;rw[Uv λj a=>h j (WS _ a),h n (X2 _)]
theorem Vm{a:Type}(q:a->Bool):∀L:List a,(L.filter q).length+(L.filter λx=>!q x).length=L.length
 |[]=>rfl
 |x::L=>by
  have:=Vm q L;rw[List.filter_cons,List.filter_cons];cases h:q x with
  |true=>rw[ZY rfl,ZZ wr,length_cons,length_cons];lia
  |false=>rw[ZZ wr,ZY wr,length_cons,length_cons];lia
theorem DO{d:Type}(f:d->Nat)(n:Nat):∀(W:Nat)(L:List d),(∀x∈L,f x<W)->W*n<L.length->∃v,n<(L.filter λx=>f x==v).length
 |0,L,h,c=>by
  cases L with
  |nil=>simp at c
  |cons x L=>exact absurd (h x aO) (WU _)
 |W+1,L,h,c=>by
  by_cases e:n<(L.filter λx=>f x==W).length
  .exact⟨W,e⟩
  .have j:=Vm (λx=>f x==W) L;rw[add_mul,Nat.one_mul]at c;obtain⟨v,i⟩:=DO f n W (L.filter λx=>!(f x==W)) (λx g=>by
    obtain⟨a,b⟩:=List.mem_filter.mp g;have:=h x a;have k:f x≠W:=λz=>by rw[z]at b;simp at b
    lia) (by omega)
   exact⟨v,aR i (List.Sublist.length_le (List.Sublist.filter _ List.filter_sublist))⟩
theorem digits_inj{W:Nat}(g:0<W):∀(n c d:Nat),c<W^n->d<W^n->(∀k,k<n->c/W^k%W=d/W^k%W)->c=d
 |0,c,d,a,hd,_=>by
  rw[pow_zero]at a hd;lia
 |n+1,c,d,a,hd,h=>by
  have b:=h 0 (TU _);rw[pow_zero,Nat.div_one,Nat.div_one]at b;have e:=digits_inj g n (c/W) (d/W) (Nat.div_lt_of_lt_mul (by rwa[JU,<- pow_succ])) (Nat.div_lt_of_lt_mul (by rw[JU,<- pow_succ];exact hd)) λk f=>by
   have:=h (k+1) (Nat.succ_lt_succ f);rw[Nat.div_div_eq_div_mul,Nat.div_div_eq_div_mul,<- Nat.pow_succ'];exact this
  rw[<- Nat.div_add_mod c W,<- Nat.div_add_mod d W,e,b]
theorem abt{p:Nat}(b:1<=N):(2*((p+1)*((2*(p+1)*N)^p*N))+1)^p<((2*(p+1)*N)^p+1)^(p+1):=by
 have w:2*((p+1)*((2*(p+1)*N)^p*N))+1<=2*(p+1)*N*((2*(p+1)*N)^p+1):=by
  have e:2*((p+1)*((2*(p+1)*N)^p*N))=2*(p+1)*N*(2*(p+1)*N)^p:=by ac_rfl
  have a:1<=2*(p+1)*N:=W1 (show 1<=2*(p+1)by lia) b;rw[e];generalize 2*(p+1)*N=X at *;rw[Nat.mul_add,Nat.mul_one];exact Nat.add_le_add_left a _
 refine Y3 (Nat.pow_le_pow_left w p) ?_;rw[Nat.mul_pow,pow_succ,JU];exact Nat.mul_lt_mul_of_pos_left (X2 _) (pow_pos (TU _))
theorem Ym{p:Nat}{C:Nat->Nat->Int}(H:1<=N)(I:∀k l,k<=p->l<p->(C k l).natAbs<=N) :
  ∃s:Nat->Int,(∃k,k<=p/\s k≠0)/\(∀k,(s k).natAbs<=(2*(p+1)*N)^p)/\∀l,l<p->sz (λk=>s k*C k l) (p+1)=0:=by
 have P:=abt (p:=p) H;generalize Q:(2*(p+1)*N)^p=B at *;generalize G:(p+1)*(B*N)=O at *;have n:∀c k:Nat,c/(B+1)^k%(B+1)<=B:=λc k=>UZ (mod_lt _ (TU _));have r:∀l c,l<p->(sz (λk=>((c/(B+1)^k%(B+1):Nat):Int)*C k l) (p+1)).natAbs<=O:=λl c b=>by
  rw[<- G];refine Mw λk o=>?_;rw[VW,X0];exact W1 (n c k) (I k l (UZ o) b)
 have all:∀q,q<=p->∃L:xE,L.Nodup/\(∀c∈L,c<(B+1)^(p+1))/\(∀l,l<q->∀c∈L,∀d∈L,sz (λk=>((c/(B+1)^k%(B+1):Nat):Int)*C k l) (p+1)=sz (λk=>((d/(B+1)^k%(B+1):Nat):Int)*C k l) (p+1))/\(2*O+1)^(p-q)<L.length:=by
  intro q
  induction q with
  |zero=>exact λ_=>⟨range ((B+1)^(p+1)),List.nodup_range,λc i=>List.mem_range.mp i,λl b=>absurd b (WU _),by rwa[WH,sub_zero]⟩
  |succ q E =>
   intro m;obtain⟨L,f,lt,j,a⟩:=E (aL (Xs _) m);have J:(2*O+1)^(p-q)=(2*O+1)*(2*O+1)^(p-(q+1)):=by rw[<- Nat.pow_succ',show(p-(q+1)).succ=p-q by lia]
   rw[J]at a;obtain⟨v,F⟩:=DO (λc=>(sz (λk=>((c/(B+1)^k%(B+1):Nat):Int)*C k q) (p+1)+O).toNat) _ _ L (λc _=>by
    have:=r q c (aR (X2 _) m);omega) a
   refine⟨_,List.Pairwise.sublist List.filter_sublist f,λc i=>lt c (List.mem_filter.mp i).1,λl b c i d hd=>?_,F⟩;obtain⟨M,u⟩:=List.mem_filter.mp i;obtain⟨K,t⟩:=List.mem_filter.mp hd;by_cases e:l<q
   .exact j l e c M d K
   .have e:l=q:=by lia
    subst e;have u:=beq_iff_eq.mp u;have t:=beq_iff_eq.mp t;have:=r l c (aR b m);have:=r l d (aR b m);omega
 obtain⟨L,f,lt,j,a⟩:=all p (aG p);rw[Nat.sub_self,pow_zero]at a
 match L,f,lt,j,a with
 |c::d::L,f,lt,j,_ =>
  have w:c≠d:=λz=>by
   rw[z]at f;exact(List.nodup_cons.mp f).1 aO
  refine⟨λk=>((c/(B+1)^k%(B+1):Nat):Int)-((d/(B+1)^k%(B+1):Nat):Int),?_,λk=>?_,λl b=>?_⟩
  .by_cases h:∀k,k<p+1->c/(B+1)^k%(B+1)=d/(B+1)^k%(B+1)
   .exact absurd (digits_inj (TU B) (p+1) c d (lt c aO) (lt d (aJ _ aO)) h) w
   .obtain⟨k,o⟩:=Classical.not_forall.mp h;obtain⟨D,A⟩:=Classical.not_imp.mp o;exact⟨k,by exact UZ D,λz=>A (by
     have z:((c/(B+1)^k%(B+1):Nat):Int)-((d/(B+1)^k%(B+1):Nat):Int)=0:=z;generalize c/(B+1)^k%(B+1)=x at *;generalize d/(B+1)^k%(B+1)=y at *;lia)⟩
  .have:=n c k;have:=n d k;show(((c/(B+1)^k%(B+1):Nat):Int)-((d/(B+1)^k%(B+1):Nat):Int)).natAbs<=B;omega
  .rw[Uv (g:=λk=>((c/(B+1)^k%(B+1):Nat):Int)*C k l-((d/(B+1)^k%(B+1):Nat):Int)*C k l) λk _=>Int.sub_mul _ _ _,DS,j l b c aO d (aJ _ aO)];exact Int.sub_self _
 |[_],_,_,_,a=>exact absurd a wr
 |[],_,_,_,a=>exact absurd a wr
structure gD(A:Nat->Nat->Int)(b:Nat->Int)(m wd:Nat)(R:Nat->Nat->Rat)(p:Nat)(pv s:Nat->Nat):Prop where
 pm:p<=m
 sm:∀i,i<m->s i<m
 pw:∀l,l<p->pv l<wd
 unit:∀i l,i<m->l<p->R i (pv l)=if i=l then 1 else 0
 dec:∀i j,i<m->j<wd->(A (s i) j:Rat)=(if i<p then 0 else(b (s i):Rat)*R i j)+sg (λl=>(A (s i) (pv l):Rat)*R l j) p
 ind:∀ax:Nat->Rat,(∀j,j<wd->sg (λk=>ax k*(A (s k) j:Rat)) p=0)->∀k,k<p->ax k=0
section
variable{A:Nat->Nat->Int}{b:Nat->Int}{m wd p:Nat}{R:Nat->Nat->Rat}{pv s:Nat->Nat}
def gD.comb(h:gD A b m wd R p pv s)(a:Nat->Rat){j:Nat}(d:j<wd):sg (λk=>a k*(A (s k) j:Rat)) p=sg (λl=>sg (λk=>a k*(A (s k) (pv l):Rat)) p*R l j) p:=by
 have pm:=h.pm;rw[bZ (g:=λk=>sg (λl=>a k*(A (s k) (pv l):Rat)*R l j) p) λk c=>?_]
 .rw[Zw];refine bZ λl e=>?_;rw[bZ (g:=λk=>R l j*(a k*(A (s k) (pv l):Rat))) λk _=>XT _ _,gw,XT]
 .rw[h.dec k j (aR c pm) d,ZY c,Rat.zero_add,<- gw];exact bZ λl _=>(Rat.mul_assoc _ _ _).symm
def jx{x:Int}(h:x≠0):(x:Rat)≠0:=λz=>h (Rat.intCast_inj.mp (z.trans Rat.intCast_zero.symm))
def NH{m q:Nat}(b:1<=N)(a:q+1<=m):(2*(q+1)*N)^(q+1)<=(2*m*N)^m:=by
 have x:2*(q+1)*N<=2*m*N:=W1 wp (aG N);have y:1<=2*m*N:=W1 (show 1<=2*m by lia) b;exact aL (Nat.pow_le_pow_left x _) (XG y a)
def lH{m q:Nat}(b:1<=N)(a:q+1<=m):(q+1)*((2*(q+1)*N)^q*N)<=(2*m*N)^m:=by
 refine aL ?_ (NH b a);have e:(2*(q+1)*N)^(q+1)=2*((q+1)*((2*(q+1)*N)^q*N)):=by
  rw[pow_succ];ac_rfl
 lia
def gD.bound(h:gD A b m wd R p pv s)(o:1<=N)(w:∀i j,i<m->j<wd->(A i j).natAbs<=N)(K:∀i,i<m->0<b i/\(b i).natAbs<=N){i:Nat}(G:i<m) :
    ∃(v:Nat->Int)(u:Int),u≠0/\u.natAbs<=(2*m*N)^m/\(∀j,j<wd->(v j).natAbs<=(2*m*N)^m)/\∀j,j<wd->R i j*(u:Rat)=(v j:Rat):=by
  have pm:=h.pm;by_cases E:i<p
  . obtain⟨q,rfl⟩ : ∃q,p=q+1:=⟨p-1,by lia⟩
    obtain⟨a,⟨r,F,t⟩,B,D⟩:=Ym (p:=q) (C:=λk l=>A (s k) (if l<i then pv l else pv (l+1))) o λk l n f=>by
      refine w _ _ (h.sm k wp) ?_;by_cases e:l<i
      . rw[ZY e];exact h.pw l (WS _ f)
      . rw[ZZ e];exact h.pw (l+1) (Nat.succ_lt_succ f)
    have cast:∀j,((sz (λk=>a k*A (s k) j) (q+1):Int):Rat)=sg (λk=>(a k:Rat)*(A (s k) j:Rat)) (q+1):=λj=>by
      rw[Kf];exact bZ λk _=>XU _ _
    have H:∀l,l<q+1->l≠i->sz (λk=>a k*A (s k) (pv l)) (q+1)=0:=λl f M=>by
      by_cases e:l<i
      . have:=D l (aR e (UZ E))
        rw[ZY e]at this;exact this
      . have:=D (l-1) (by omega)
        rw[ZZ wp,show l-1+1=l by lia]at this;exact this
    have x:∀j,j<wd->((sz (λk=>a k*A (s k) j) (q+1):Int):Rat)=((sz (λk=>a k*A (s k) (pv i)) (q+1):Int):Rat)*R i j:=λj d=>by
      rw[cast,h.comb (λk=>(a k:Rat)) d,bZ (g:=λl=>(if l=i then 1 else 0)*(((sz (λk=>a k*A (s k) (pv i)) (q+1):Int):Rat)*R l j)) λl f=>?_,jt,ZY E];rw[<- cast (pv l)];by_cases e:l=i
      . rw[ZY e,e,Rat.one_mul]
      . rw[ZZ e,H l f e,intCast_zero];grind
    refine⟨λj=>sz (λk=>a k*A (s k) j) (q+1),sz (λk=>a k*A (s k) (pv i)) (q+1),λz=>?_,?_,λj d=>?_,λj d=>?_⟩
    . have:=h.ind (λk=>(a k:Rat)) (λj d=>by
        rw[<- cast,x j d,z,intCast_zero];grind) r (Y3 F (X2 _))
      exact jx t this
    . exact aL (Mw λk n=>by rw[VW];exact W1 (B k) (w _ _ (h.sm k (aR n pm)) (h.pw i E))) (lH o (by omega))
    . exact aL (Mw λk n=>by rw[VW];exact W1 (B k) (w _ _ (h.sm k (aR n pm)) d)) (lH o (by omega))
    . rw[x j d,XT]
  . obtain⟨a,⟨r,F,t⟩,B,D⟩:=Ym (p:=p) (C:=λk l=>A (s (if k<p then k else i)) (pv l)) o λk l n f=>by
      refine w _ _ (h.sm _ ?_) (h.pw l f);by_cases e:k<p
      . rw[ZY e];exact aR e pm
      . rwa[ZZ e]
    have cast:∀j,((sz (λk=>a k*A (s (if k<p then k else i)) j) (p+1):Int):Rat)=sg (λk=>(a k:Rat)*(A (s k) j:Rat)) p+(a p:Rat)*(A (s i) j:Rat):=λj=>by
      rw[Kf];show sg _ p+((a p*A (s (if p<p then p else i)) j:Int):Rat)=_;rw[ZZ (Wp _),XU,bZ (g:=λk=>(a k:Rat)*(A (s k) j:Rat)) λk n=>by rw[ZY n,XU]]
    have x:∀j,j<wd->((sz (λk=>a k*A (s (if k<p then k else i)) j) (p+1):Int):Rat)=((a p*b (s i):Int):Rat)*R i j:=λj d=>by
      have O:sg (λl=>sg (λk=>(a k:Rat)*(A (s k) (pv l):Rat)) p*R l j) p+(a p:Rat)*sg (λl=>(A (s i) (pv l):Rat)*R l j) p=0:=by
        rw[<- gw,<- iz,bZ (g:=λ_=>0) λl f=>?_,iK];have:=cast (pv l);rw[D l f,intCast_zero]at this
        calc _=(sg (λk=>(a k:Rat)*(A (s k) (pv l):Rat)) p+(a p:Rat)*(A (s i) (pv l):Rat))*R l j:=by grind
          _=0:=by rw[<- this];grind
      rw[cast,h.comb (λk=>(a k:Rat)) d,h.dec i j G d,ZZ E,XU]
      grind
    have L:=K _ (h.sm i G);have I:a p≠0:=λz=>by
      have J:r<p:=by
        by_cases e:r=p
        . rw[e,z]at t;exact absurd rfl t
        . exact XX F e
      have:=h.ind (λk=>(a k:Rat)) (λj d=>by
        have c:=cast j;rw[x j d,z,Int.zero_mul,intCast_zero]at c
        grind) r J
      exact jx t this
    refine⟨λj=>sz (λk=>a k*A (s (if k<p then k else i)) j) (p+1),a p*b (s i),λz=>?_,?_,λj d=>?_,λj d=>?_⟩
    . rcases Int.mul_eq_zero.mp z with y|y
      . exact I y
      . lia
    . rw[VW]
      refine aL (W1 (B p) L.2) (aL ?_ (lH o (show p+1<=m by lia)));exact l5 _ (TU p)
    . exact aL (Mw λk n=>by
        rw[VW];refine W1 (B k) (w _ _ (h.sm _ ?_) d);by_cases e:k<p
        . rw[ZY e];exact aR e pm
        . rwa[ZZ e]) (lH o (show p+1<=m by lia))
    . rw[x j d,XT]
def gD.congr(h:gD A b m wd R p pv s)(e:∀i j,i<m->R i j=R' i j):gD A b m wd R' p pv s:=by
 have pm:=h.pm;refine⟨h.pm,h.sm,h.pw,λi l a c=>by rw[<- e i _ a];exact h.unit i l a c,λi j a d=>?_,h.ind⟩;rw[h.dec i j a d,e i j a,bZ λl c=>by rw[e l j (aR c pm)]]
def gD.zero(e:∀i,i<m->0<b i):gD A b m wd (λi j=>(A i j:Rat)/(b i:Rat)) 0 pv id:=by
 refine⟨aZ _,λi c=>c,λl a=>absurd a (WU _),λi l _ a=>absurd a (WU _),λi j c f=>?_,λg _ k d=>absurd d (WU _)⟩;rw[ZZ (WU _)];have:=jx (WP (e i c));show(A i j:Rat)=(b i:Rat)*((A i j:Rat)/(b i:Rat))+0
 grind
def sw(p q x:Nat):Nat:=if x=p then q else if x=q then p else x
def gD.swap(h:gD A b m wd R p pv s){q:Nat}(v:p<=q)(r:q<m)(n:∀i j,i<m->j<wd->R' i j=R (sw p q i) j):gD A b m wd R' p pv (λi=>s (sw p q i)):=by
 have pm:=h.pm;have f:∀l,l<p->sw p q l=l:=λl a=>by unfold sw;rw[ZZ (aQ a),ZZ wp]
 have sm:∀i,i<m->sw p q i<m:=λi c=>by
  unfold sw;split
  .exact r
  .split<;>omega
 have g:∀i,(sw p q i<p)↔i<p:=λi=>by
  unfold sw;split
  .lia
  .split<;>lia
 refine⟨pm,λi c=>h.sm _ (sm i c),h.pw,λi l c a=>?_,λi j c d=>?_,λu o=>?_⟩
 .rw[n i _ c (h.pw l a),h.unit _ l (sm i c) a];by_cases e:i=l
  .rw[ZY e,e,ZY (f l a)]
  .rw[ZZ e,ZZ λz=>e ?_];have:i<p:=(g i).mp (Y3 (WG z) a);rw[<- z,f i this]
 .rw[h.dec _ j (sm i c) d,n i j c d]
  congr 1
  .by_cases e:i<p
   .rw[ZY e,ZY ((g i).mpr e)]
   .rw[ZZ e,ZZ λz=>e ((g i).mp z)]
  .exact bZ λl a=>by rw[n l j (aR a pm) d,f l a]
 .exact h.ind u λj d=>by
   rw[<- o j d];exact bZ λk t=>by rw[f k t]
def gD.pivot(h:gD A b m wd R p pv s)(u:p<m)(K:∀i,i<m->0<b i){c:Nat}(q:c<wd)(M:R p c≠0)(B:∀j,j<wd->R' p j*R p c=R p j)(y:∀i j,i<m->i≠p->j<wd->R' i j=R i j-R i c*R' p j) :
  gD A b m wd R' (p+1) (λl=>if l=p then c else pv l) s:=by
 have pm:=h.pm;have r:R' p c=1:=by
  have:=B c q
  grind
 have D:∀l,l<p->R' p (pv l)=0:=λl a=>by
  have:=B (pv l) (h.pw l a);rw[h.unit p l u a,ZZ (UK a)]at this
  grind
 have x:∀l,l<p->(if l=p then c else pv l)=pv l:=λl a=>ZZ (aQ a);have t:∀i j,i<m->i≠p->j<wd->R i j=R' i j+R i c*R' p j:=λi j n I d=>by rw[y i j n I d];grind
 have dec:∀i j,i<m->j<wd->(A (s i) j:Rat)=(if i<p+1 then 0 else(b (s i):Rat)*R' i j)+sg (λl=>(A (s i) (if l=p then c else pv l):Rat)*R' l j) (p+1):=λi j n d=>by
  have C:=h.dec i j n d;have v:=h.dec i c n q;have L:sg (λl=>(A (s i) (pv l):Rat)*R l j) p=sg (λl=>(A (s i) (pv l):Rat)*R' l j) p+R' p j*sg (λl=>(A (s i) (pv l):Rat)*R l c) p:=by
   rw[<- gw,<- iz];exact bZ λl a=>by rw[t l j (UU a u) (aQ a) d];grind
  rw[L]at C;show _=_+(sg _ p+(A (s i) (if p=p then c else pv p):Rat)*R' p j);rw[ZY rfl,bZ (g:=λl=>(A (s i) (pv l):Rat)*R' l j) λl a=>by rw[x l a]];by_cases e:i<p
  .rw[ZY (WS _ e)];rw[ZY e]at C v
   grind
  .rw[ZZ e]at C v;by_cases G:i=p
   .rw[ZY wp];subst G;have:=B j d
    grind
   .rw[ZZ wp];have:=t i j n G d
    grind
 refine⟨u,h.sm,λl a=>?_,λi l n a=>?_,dec,λf F=>?_⟩
 .by_cases e:l=p
  .show(if l=p then c else pv l)<wd;rwa[ZY e]
  .show(if l=p then c else pv l)<wd;rw[ZZ e];exact h.pw l (XX (UZ a) e)
 .show R' i (if l=p then c else pv l)=_;by_cases e:l=p
  .rw[ZY e,e];by_cases o:i=p
   .rw[ZY o,o];exact r
   .rw[ZZ o,y i c n o q,r];grind
  .rw[ZZ e];have w:l<p:=by exact XX (UZ a) e
   by_cases o:i=p
   .rw[o,D l w,ZZ (Ne.symm e)]
   .rw[y i _ n o (h.pw l w),D l w,h.unit i l n w];grind
 .have E:f p=0:=by
   by_cases z:f p=0
   .exact z
   .exfalso

    have d:∀j,j<wd->sg (λk=>f k*(A (s k) j:Rat)) p=-(f p*(A (s p) j:Rat)):=λj d=>by
     have:sg (λk=>f k*(A (s k) j:Rat)) p+f p*(A (s p) j:Rat)=0:=F j d
     grind
    have H:=h.comb f q;rw[d c q,bZ (g:=λl=>-(f p)*((A (s p) (pv l):Rat)*R l c)) λl a=>by rw[d _ (h.pw l a)];grind,gw]at H;have v:=h.dec p c u q;rw[ZZ (Wp p)]at v;have N:=jx (WP (K _ (h.sm p u)));have:f p*((b (s p):Rat)*R p c)=0:=by rw[v]at H;grind
    grind
  intro k J;by_cases e:k=p
  .rw[e];exact E
  .refine h.ind f (λj d=>?_) k (XX (UZ J) e);have:sg (λk=>f k*(A (s k) j:Rat)) p+f p*(A (s p) j:Rat)=0:=F j d;rw[E]at this
   grind
end
def vr(r:List Int×Int)(j:Nat):Rat:=((r.1.getD j 0:Int):Rat)/(r.2:Rat)
def PX{f:Int->Int}(b:f 0=0)(a:xm)(j:Nat):(a.map f).getD j 0=f (a.getD j 0):=by
 rw[au,au,aq];cases a[j]? with
 |none=>exact b.symm
 |some t=>rfl
theorem rO{r:List Int×Int}(h:0<r.2)(j:Nat):vr (jC r) j=vr r j:=by
 have a:=iT (ts:=r.1) h;obtain⟨o,n⟩:=iM (ts:=r.1) (b:=r.2);have l:(jC r).1.getD j 0=r.1.getD j 0/ba r.1 r.2:=PX (f:=λt=>t/ba r.1 r.2) (Int.zero_ediv _) r.1 j;have m:ba r.1 r.2 ∣ r.1.getD j 0:=by
  rw[au];cases e:r.1[j]? with
  |none=>exact⟨0,by rw[Int.mul_zero];rfl⟩
  |some t=>exact n t (aC e)
 have k:(jC r).2=r.2/ba r.1 r.2:=rfl;unfold vr;rw[l,k];generalize r.1.getD j 0=t at *;generalize ba r.1 r.2=g at *;obtain⟨u,i⟩:=m;obtain⟨v,c⟩:=o;rw[i,c,kc _ (WP a),kc _ (WP a),XU,XU];have d:v≠0:=λz=>by rw[c,z,Int.mul_zero]at h;lia
 have:=jx d;have:=jx (WP a)
 grind
def lD{r:List Int×Int}{c:Β}(h:0<r.2)(a:0<c.2)(j:Nat):vr (jw r c) j=vr r j*((c.1:Rat)/(c.2:Rat)):=by
 have d:(jw r c).1.getD j 0=r.1.getD j 0*c.1:=PX (f:=λt=>t*c.1) (Int.zero_mul _) r.1 j;have b:(jw r c).2=r.2*c.2:=rfl;unfold vr;rw[d,b,XU,XU];have:=jx (WP h);have:=jx (WP a)
 grind
theorem pI{r p:List Int×Int}{c:Β}(D:0<r.2)(z:0<p.2)(A:0<c.2)(E:r.1.length=p.1.length)(j:Nat):vr (pN r p c) j=vr r j+((c.1:Rat)/(c.2:Rat))*vr p j:=by
 have F:=XZ z A;have a:=Be (t:=r.2) F;obtain⟨u,k⟩:=Int.gcd_dvd_left r.2 (p.2*c.2);obtain⟨v,f⟩:=QR r.2 (p.2*c.2);have H:pN r p c=(zipWith (λx y=>x*v+y*(u*c.1)) r.1 p.1,r.2*v):=by
  unfold pN;generalize((Int.gcd r.2 (p.2*c.2):Nat):Int)=g at a k f ⊢;have q:p.2*c.2/g=v:=by rw[f,kc _ (WP a)]
  have o:r.2/g=u:=by
   conv=>lhs;rw[k]
   exact kc _ (WP a)
  rw[q,o]
 generalize((Int.gcd r.2 (p.2*c.2):Nat):Int)=g at a k f;have B:0<v:=Int.pos_of_mul_pos_right (by rwa[<- f]) a;have G:(zipWith (λx y=>x*v+y*(u*c.1)) r.1 p.1).getD j 0=r.1.getD j 0*v+p.1.getD j 0*(u*c.1):=by
  rw[au,au,au,List.getElem?_zipWith];by_cases e:j<r.1.length
  .rw[aj e,aj (aR e (WG E))];rfl
  .rw[aM (VS e),aM wp];show(0:Int)=0*v+0*(u*c.1);rw[Int.zero_mul,Int.zero_mul];rfl
 rw[H];unfold vr;show((zipWith (λx y=>x*v+y*(u*c.1)) r.1 p.1).getD j 0:Rat)/((r.2*v:Int):Rat)=_;rw[G];generalize r.1.getD j 0=x;generalize p.1.getD j 0=y;have n:(r.2:Rat)=(g:Rat)*(u:Rat):=by rw[<- XU,<- k]
 have C:(p.2:Rat)*(c.2:Rat)=(g:Rat)*(v:Rat):=by rw[<- XU,<- XU,f]
 have I:=jx (WP D);have K:=jx (WP z);have N:=jx (WP A);have J:=jx (WP B);have L:=jx (WP a);rw[Rat.intCast_add,XU,XU,XU,XU];generalize(r.2:Rat)=d at *;generalize(p.2:Rat)=m at *;generalize(c.2:Rat)=s at *;generalize(c.1:Rat)=l at *;generalize(g:Rat)=M at *;generalize(u:Rat)=i at *;generalize(v:Rat)=b at *;generalize(x:Rat)=w at *;generalize(y:Rat)=h at *;have q:(w*b+h*(i*l))/(d*b)=w/d+h*(i*l)/(d*b):=by grind
 have o:h*(i*l)/(d*b)=l/s*(h/m):=by
  have:i*(s*m)=d*b:=by rw[n,XT s m,C];grind
  grind
 rw[q,o]
def pq{M c:Nat}{r:List Int×Int}(i:0<r.2)(g:ba r.1 r.2=1)(hw:r.1.length=c){v:Nat->Int}{u:Int}(n:u≠0)(x:u.natAbs<=M)(m:∀j,j<c->(v j).natAbs<=M)(e:∀j,j<c->vr r j*(u:Rat)=(v j:Rat)):Big M r:=by
 refine least (s:=((range c).map λj=>v j*u.sign,u.natAbs)) i g ⟨?_,λk a b l d=>?_⟩ ⟨?_,?_,λt q=>?_⟩
 .show r.1.length=((range c).map λj=>v j*u.sign).length;rw[hw,ak,WH]
 .have h:k<c:=by rw[<- hw];exact(ao.mp l).1
  have d:((range c).map λj=>v j*u.sign)[k]?=some b:=d;rw[aq,Up h]at d;cases d;show a*((u.natAbs:Nat):Int)=v k*u.sign*r.2;have f:=e k h;unfold vr at f;rw[au,l]at f;have f:(a:Rat)/(r.2:Rat)*(u:Rat)=(v k:Rat):=f;have y:=jx (WP i);have o:a*u=v k*r.2:=by
   refine Rat.intCast_inj.mp ?_;rw[XU,XU]
   grind
  have p:((u.natAbs:Nat):Int)=u*u.sign:=(Int.mul_sign_self u).symm;rw[p,<- Int.mul_assoc,o];ac_rfl
 .show(0:Int)<(u.natAbs:Nat);lia
 .show(((u.natAbs:Nat):Int)).natAbs<=M;rwa[X0]
 .obtain⟨j,w,rfl⟩:=YV.mp q;rw[VW,Int.natAbs_sign_of_ne_zero n,Nat.mul_one];exact m j (List.mem_range.mp w)
end Rw
namespace K56
open PySem PyProof.Rows L2
abbrev Dl:=top 10
abbrev gO:Str:="is_whole"
def WR:bK Xb fL (bG Dl):=ap
abbrev HY:=top 11
abbrev jB:Str:="divisor"
def XS:bK Qi cT (bG HY):=ap
abbrev QV:=top 15
abbrev pU:Str:="ratio"
def adL:bK T3 nW (bG QV):=ap
abbrev DW:=top 16
abbrev mX:Str:="is_ratio"
def VG:bK Dj jK (bG DW):=ap
abbrev YC:=top 17
abbrev BR:Str:="plus"
def ZI:bK SK vO (bG YC):=ap
abbrev SQ:=top 18
abbrev pR:Str:="minus"
def ab2:bK We m9 (bG SQ):=ap
abbrev Q6:=top 19
abbrev uT:Str:="times"
def aci:bK WO sV (bG Q6):=ap
abbrev Xd:=top 20
abbrev Bw:Str:="over"
def SZ:bK Pi w6 (bG Xd):=ap
abbrev QH:=top 21
abbrev ni:Str:="under"
def _5:bK _P mj (bG QH):=ap
abbrev J6:=top 23
abbrev p7:Str:="level"
def _B:bK EZ nZ (bG J6):=ap
abbrev TF:=top 24
abbrev Ea:Str:="total"
def _y:bK R4 yI (bG TF):=ap
abbrev vK:=top 25
abbrev iG:Str:="greatest"
def Iv:bK rW iI (bG vK):=ap
abbrev RQ:=top 26
abbrev Ga:Str:="least"
def acg:bK _k yx (bG RQ):=ap
abbrev q_:=top 28
abbrev lQ:Str:="first_plan"
def O9:bK xg jm (bG q_):=ap
abbrev Ys:=top 29
abbrev J0:Str:="fits"
def _M:bK Xx FN (bG Ys):=ap
abbrev vR:=top 30
abbrev jk:Str:="check_plan"
def O5:bK vM gQ (bG vR):=ap
abbrev lN:=top 31
abbrev n6:Str:="behind_door"
def Mq:bK lE jz (bG lN):=ap
abbrev uK:=top 32
abbrev jV:Str:="raised_look"
def Lp:bK Cw iC (bG uK):=ap
abbrev Gf:=top 34
abbrev uV:Str:="lowest"
def aaJ:bK Wq rA (bG Gf):=ap
abbrev tW:=top 35
abbrev qI:Str:="row_times"
def Tz:bK Am nR (bG tW):=ap
abbrev wJ:=top 36
abbrev tV:Str:="row_plus"
def I9:bK Dr pX (bG wJ):=ap
abbrev zm:=top 37
abbrev qN:Str:="take_step"
def Uq:bK Ax oG (bG zm):=ap
abbrev zY:=top 38
abbrev nQ:Str:="number_at"
def TY:bK Aa kJ (bG zY):=ap
abbrev jO:=top 39
abbrev mJ:Str:="fractions_of"
def JM:bK jJ jd (bG jO):=ap
abbrev vN:=top 40
abbrev pF:Str:="first_from"
def Oo:bK Gb lY (bG vN):=ap
abbrev Rj:=top 41
abbrev zL:Str:="go_on"
def _6:bK Ub u_ (bG Rj):=ap
abbrev yj:=top 42
abbrev qR:Str:="begin_row"
def Qy:bK Jh nF (bG yj):=ap
abbrev rR:=top 43
abbrev mC:Str:="clear_column"
def Jx:bK yN je (bG rR):=ap
abbrev Bk:=top 44
abbrev vG:Str:="reduced"
def Lb:bK Ij sJ (bG Bk):=ap
abbrev DN:=top 46
abbrev tY:Str:="width_of"
def Vq:bK Xh pY (bG DN):=ap
abbrev o_:=top 47
abbrev oH:Str:="with_rights"
def Le:bK um jL (bG o_):=ap
abbrev tX:=top 48
abbrev qM:Str:="begins_of"
def Eb:bK yh oE (bG tX):=ap
abbrev Ht:=top 49
abbrev wR:Str:="odd_row"
def Yi:bK Hu tu (bG Ht):=ap
abbrev yM:=top 50
abbrev qQ:Str:="answer_of"
def Ua:bK Iu nT (bG yM):=ap
abbrev lG:=top 51
abbrev nJ:Str:="single_rows"
def Mt:bK lK jD (bG lG):=ap
abbrev uq:=top 52
abbrev oF:Str:="only_answer"
def M8:bK Cq jH (bG uq):=ap
abbrev oM:=top 54
abbrev mq:Str:="chosen_doors"
def JF:bK tK iZ (bG oM):=ap
abbrev Ak:=top 55
abbrev qH:Str:="left_rows"
def Uh:bK I8 m_ (bG Ak):=ap
abbrev uc:=top 56
abbrev mZ:Str:="worths_of"
def FP:bK yZ kI (bG uc):=ap
abbrev uN:=top 58
abbrev oh:Str:="better_door"
def MP:bK uo jF (bG uN):=ap
abbrev Ef:=top 59
abbrev vB:Str:="mended"
def Qf:bK Mp rH (bG Ef):=ap
abbrev Dp:=top 60
abbrev tZ:Str:="mendings"
def Wt:bK Dk pW (bG Dp):=ap
abbrev Hg:=top 61
abbrev wu:Str:="best_of"
def W_:bK abr sS (bG Hg):=ap
abbrev wN:=top 64
abbrev o9:Str:="check_many"
def Nx:bK SX lO (bG wN):=ap
abbrev HX:=top 65
abbrev wQ:Str:="lowered"
def X7:bK HS sG (bG HX):=ap
abbrev qJ:=top 66
abbrev jo:Str:="best_round"
def Dg:bK wW gY (bG qJ):=ap
abbrev qj:=top 67
abbrev oY:Str:="rounds_behind"
def Hj:bK qd j9 (bG qj):=ap
abbrev jr:=top 68
abbrev dJ:Str:="best_rounds"
def KR:bK ji dI (bG jr):=ap
abbrev tG:=top 70
abbrev iV:Str:="check_behind"
def JG:bK KD gB (bG tG):=ap
abbrev Kl:=top 71
abbrev Gp:Str:="gains"
def _x:bK Rf Ad (bG Kl):=ap
abbrev Hl:=top 72
abbrev wI:Str:="to_come"
def YQ:bK Ih sI (bG Hl):=ap
abbrev pZ:=top 73
abbrev qY:Str:="bounds_of"
def RJ:bK pQ oK (bG pZ):=ap
abbrev vP:=top 74
abbrev pC:Str:="round_plan"
def Oh:bK QC lV (bG vP):=ap
abbrev Bt:=top 77
abbrev oU:Str:="is_word"
def YW:bK HF mL (bG Bt):=ap
abbrev vH:=top 79
abbrev lX:Str:="check_head"
def Ov:bK wg jh (bG vH):=ap
abbrev nG:=top 80
abbrev fZ:Str:="check_room_name"
def Dw:bK Gg eN (bG nG):=ap
abbrev sH:=top 81
abbrev jc:Str:="check_chance"
def Jy:bK K6 gC (bG sH):=ap
abbrev pK:=top 82
abbrev oN:Str:="check_pairs"
def Ky:bK uw jM (bG pK):=ap
abbrev pG:=top 83
abbrev n_:Str:="joined_ways"
def Nj:bK Cp jG (bG pG):=ap
abbrev ug:=top 90
abbrev nu:Str:="check_share"
def K4:bK Om jR (bG ug):=ap
abbrev wY:=top 91
abbrev pB:Str:="numbers_of"
def Ou:bK vY lW (bG wY):=ap
abbrev qe:=top 92
abbrev kh:Str:="numbered_ways"
def Hh:bK xT ig (bG qe):=ap
abbrev Ag:=top 93
abbrev qK:Str:="offers_of"
def Uc:bK Ja nC (bG Ag):=ap
abbrev Xv:=top 96
abbrev Er:Str:="_law_cell"
def WA:bK YJ Bu (bG Xv):=ap
abbrev MN:=top 97
abbrev j6:Str:="_law_stream"
def aa6:bK Wr jq (bG MN):=ap
abbrev px:=top 98
abbrev Mj:Str:="_law_gcd"
def ER:bK Db qy (bG px):=ap
abbrev Ng:=top 99
abbrev rE:Str:="_law_ratio"
def aaW:bK VD oW (bG Ng):=ap
abbrev yP:=top 100
abbrev qU:Str:="_law_is_ratio"
def Q0:bK zH nM (bG yP):=ap
abbrev qT:=top 101
abbrev lM:Str:="_law_are_ratios"
def O1:bK xO jf (bG qT):=ap
abbrev dS:=top 102
abbrev Kg:Str:="_law_same"
def Ta:bK N2 Gq (bG dS):=ap
abbrev BX:=top 103
abbrev Fv:Str:="_law_names"
def acz:bK wZ Af (bG BX):=ap
abbrev Q7:=top 104
abbrev Fx:Str:="_law_share"
def abQ:bK E9 yH (bG Q7):=ap
abbrev py:=top 105
abbrev TX:Str:="_law_pay"
def Sz:bK C2 Lr (bG py):=ap
abbrev Dv:=top 106
abbrev J1:Str:="_law_door"
def RW:bK vQ Ew (bG Dv):=ap
abbrev JX:=top 107
abbrev Gr:Str:="_law_doors"
def VF:bK Rb zy (bG JX):=ap
abbrev FZ:=top 108
abbrev Fg:Str:="_law_built"
def VJ:bK Fd Ay (bG FZ):=ap
abbrev Um:=top 109
abbrev J2:Str:="_law_hall"
def WF:bK Yo GQ (bG Um):=ap
abbrev RP:=top 111
abbrev zZ:Str:="_law_below"
def ad4:bK Zl uY (bG RP):=ap
abbrev Xc:=top 112
abbrev J7:Str:="_law_size"
def _h:bK Yl GK (bG Xc):=ap
abbrev Yr:=top 113
abbrev Fw:Str:="_law_less"
def YE:bK NY Bc (bG Yr):=ap
abbrev qW:=top 114
abbrev lZ:Str:="_law_none_above"
def N5:bK vC jj (bG qW):=ap
abbrev JZ:=top 115
abbrev Gd:Str:="_law_alike"
def _G:bK Q9 zP (bG JZ):=ap
abbrev Kv:=top 116
abbrev Bp:Str:="_law_nearer"
def abJ:bK Vs vd (bG Kv):=ap
abbrev zf:=top 117
abbrev BP:Str:="_law_within"
def aaM:bK yE vg (bG zf):=ap
abbrev Va:=top 118
abbrev SN:Str:="law"
def Xu:bK pj Qs (bG Va):=ap
abbrev zV:Stmt:=g_ 84 0
abbrev En:Str:="__init__"
abbrev Gy:Str:="Door.__init__"
def T6:bK yw kO (bG zV):=ap
abbrev zB:Stmt:=g_ 84 1
abbrev Gx:Str:="ways"
abbrev Gu:Str:="Door.ways"
def RV:bK WQ m8 (bG zB):=ap
abbrev zR:Stmt:=g_ 85 0
abbrev D_:Str:="__init__"
abbrev GX:Str:="Sure.__init__"
def RG:bK Ah m7 (bG zR):=ap
abbrev wO:Stmt:=g_ 86 0
abbrev CJ:Str:="__init__"
abbrev Cj:Str:="Mixed.__init__"
def Nz:bK wj gR (bG wO):=ap
abbrev yC:Stmt:=g_ 87 0
abbrev E_:Str:="__init__"
abbrev Fp:Str:="Toss.__init__"
def S9:bK I_ ou (bG yC):=ap
abbrev tR:Stmt:=g_ 88 0
abbrev Ed:Str:="__init__"
abbrev Es:Str:="Even.__init__"
def Ui:bK A_ nY (bG tR):=ap
abbrev tO:Stmt:=g_ 94 0
abbrev Gw:Str:="__init__"
abbrev Eh:Str:="Hall.__init__"
def Ru:bK zM mY (bG tO):=ap
abbrev zF:Stmt:=g_ 94 1
abbrev Fo:Str:="size"
abbrev G3:Str:="Hall.size"
def Sg:bK V_ fD (bG zF):=ap
abbrev nH:Stmt:=g_ 94 4
abbrev tH:Str:="check_room"
abbrev rM:Str:="Hall.check_room"
def Dz:bK Fq fW (bG nH):=ap
abbrev pA:Stmt:=g_ 94 6
abbrev zu:Str:="offers"
abbrev yt:Str:="Hall.offers"
def Lx:bK uH dX (bG pA):=ap
structure a' where
 Door:Addr
 Sure:Addr
 Mixed:Addr
 Toss:Addr
 Even:Addr
 Hall:Addr
 NOUGHT:Addr
 ONE:Addr
 Door_init:Addr
 Door_ways:Addr
 Sure_init:Addr
 Mixed_init:Addr
 Toss_init:Addr
 Even_init:Addr
 Hall_init:Addr
 Hall_size:Addr
 Hall_check_room:Addr
 Hall_offers:Addr
 T_best_rounds:Addr
structure Txt(K:Frag)(mg:Str->Ω)(D:a'):Prop where
 acn:mg "Door"=some (.ref D.Door)
 ajz:mg "Even"=some (.ref D.Even)
 ahE:mg "Hall"=some (.ref D.Hall)
 Ro:mg "Mixed"=some (.ref D.Mixed)
 iY:mg "NOUGHT"=some (.ref D.NOUGHT)
 Gm:mg "ONE"=some (.ref D.ONE)
 aiN:mg "Sure"=some (.ref D.Sure)
 ajH:mg "Toss"=some (.ref D.Toss)
 Kr:∃u,mg "LONGEST_WORD"=some u/\z4 (.int 8) u
 adv:∃u,mg "MOST"=some u/\z4 (.int 40) u
 gA:∀H,SqT K H D.NOUGHT [.int 0,.int 1]
 xq:∀H,SqT K H D.ONE [.int 1,.int 1]
 acO:Cls K D.Door
 R5:Meth K D.Door "ways" D.Door_ways
 O_:cD K D.Door "leads"
 Tv:cD K D.Door "name"
 JC:cD K D.Door "numbers"
 Jv:cD K D.Door "offered"
 WX:cD K D.Door "pay"
 NQ:cD K D.Door "share"
 afZ:Mk K D.Sure D.Sure_init
 ael:Cls K D.Sure
 R8:Meth K D.Sure "ways" D.Door_ways
 Ot:cD K D.Sure "leads"
 Ur:cD K D.Sure "name"
 Jm:cD K D.Sure "numbers"
 Jw:cD K D.Sure "offered"
 VB:cD K D.Sure "pay"
 O2:cD K D.Sure "share"
 acR:Mk K D.Mixed D.Mixed_init
 aa5:Cls K D.Mixed
 NZ:Meth K D.Mixed "ways" D.Door_ways
 Lq:cD K D.Mixed "leads"
 Oz:cD K D.Mixed "name"
 HB:cD K D.Mixed "numbers"
 G9:cD K D.Mixed "offered"
 T9:cD K D.Mixed "pay"
 K5:cD K D.Mixed "share"
 afH:Mk K D.Toss D.Toss_init
 adb:Cls K D.Toss
 Sh:Meth K D.Toss "ways" D.Door_ways
 Nv:cD K D.Toss "leads"
 Tj:cD K D.Toss "name"
 Jq:cD K D.Toss "numbers"
 Jp:cD K D.Toss "offered"
 Vy:cD K D.Toss "pay"
 Ob:cD K D.Toss "share"
 aeM:Mk K D.Even D.Even_init
 abR:Cls K D.Even
 Td:Meth K D.Even "ways" D.Door_ways
 Oc:cD K D.Even "leads"
 Rh:cD K D.Even "name"
 Js:cD K D.Even "numbers"
 Jo:cD K D.Even "offered"
 WT:cD K D.Even "pay"
 Og:cD K D.Even "share"
 aeV:Mk K D.Hall D.Hall_init
 i_:Cls K D.Hall
 Dt:Meth K D.Hall "check_room" D.Hall_check_room
 jQ:Meth K D.Hall "offers" D.Hall_offers
 nq:Meth K D.Hall "size" D.Hall_size
 Ox:cD K D.Hall "leads"
 Te:cD K D.Hall "name"
 Jt:cD K D.Hall "numbers"
 JD:cD K D.Hall "offered"
 Ut:cD K D.Hall "pay"
 Od:cD K D.Hall "share"
 GF:IV K D.Door "__init__" D.Door_init
 Qu:Ce K En Gy zV kO D.Door_init
 Tr:Ce K Gx Gu zB m8 D.Door_ways
 Qt:Ce K D_ GX zR m7 D.Sure_init
 CZ:IV K D.Mixed "__init__" D.Mixed_init
 Oi:Ce K CJ Cj wO gR D.Mixed_init
 Ra:Ce K E_ Fp yC ou D.Toss_init
 Uk:Ce K Ed Es tR nY D.Even_init
 Ti:Ce K Gw Eh tO mY D.Hall_init
 Eu:Ce K Fo G3 zF fD D.Hall_size
 sX:Ce K tH rM nH fW D.Hall_check_room
 yQ:Ce K zu yt pA dX D.Hall_offers
 UJ:mg "abs"=none
 adG:mg "all"=none
 alN:mg "any"=none
 adh:mg "bool"=none
 pP:mg "enumerate"=none
 Pj:mg "int"=none
 fJ:mg "isinstance"=none
 gk:mg "len"=none
 M9:mg "list"=none
 gJ:mg "range"=none
 aew:mg "sorted"=none
 amk:mg "str"=none
 ab3:mg "sum"=none
 Zy:mg "tuple"=none
 Jg:mg "zip"=none
 Mv:cL K mg gO Dl fL
 P0:cL K mg jB HY cT
 ZP:cL K mg pU QV nW
 YG:cL K mg mX DW jK
 aeE:cL K mg BR YC vO
 aeW:cL K mg pR SQ m9
 Za:cL K mg uT Q6 sV
 ad5:cL K mg Bw Xd w6
 aar:cL K mg ni QH mj
 Y7:cL K mg p7 J6 nZ
 f_total:cL K mg Ea TF yI
 DX:cL K mg iG vK iI
 agk:cL K mg Ga RQ yx
 Sv:cL K mg lQ q_ jm
 aiE:cL K mg J0 Ys FN
 Ug:cL K mg jk vR gQ
 Cz:cL K mg n6 lN jz
 Cu:cL K mg jV uK iC
 adX:cL K mg uV Gf rA
 WD:cL K mg qI tW nR
 Yq:cL K mg tV wJ pX
 U_:cL K mg qN zm oG
 U4:cL K mg nQ zY kJ
 Ln:cL K mg mJ jO jd
 Rr:cL K mg pF vN lY
 agE:cL K mg zL Rj u_
 Vl:cL K mg qR yj nF
 LQ:cL K mg mC rR je
 aaH:cL K mg vG Bk sJ
 X5:cL K mg tY DN pY
 O7:cL K mg oH o_ jL
 VL:cL K mg qM tX oE
 aaT:cL K mg wR Ht tu
 Uz:cL K mg qQ yM nT
 O4:cL K mg nJ lG jD
 Ny:cL K mg oF uq jH
 KC:cL K mg mq oM iZ
 Vj:cL K mg qH Ak m_
 Vv:cL K mg mZ uc kI
 N8:cL K mg oh uN jF
 abX:cL K mg vB Ef rH
 Yg:cL K mg tZ Dp pW
 abx:cL K mg wu Hg sS
 RZ:cL K mg o9 wN lO
 Qd:cL K mg wQ HX sG
 QZ:cL K mg jo qJ gY
 JH:cL K mg oY qj j9
 N7:afd K mg dJ jr dI D.T_best_rounds
 Nf:cL K mg iV tG gB
 ae1:cL K mg Gp Kl Ad
 aaL:cL K mg wI Hl sI
 Uu:cL K mg qY pZ oK
 Sq:cL K mg pC vP lV
 aaB:cL K mg oU Bt mL
 R_:cL K mg lX vH jh
 Ep:cL K mg fZ nG eN
 KQ:cL K mg jc sH gC
 N_:cL K mg oN pK jM
 OD:cL K mg n_ pG jG
 Oq:cL K mg nu ug jR
 Rk:cL K mg pB wY lW
 JQ:cL K mg kh qe ig
 VP:cL K mg qK Ag nC
 aiq:cL K mg Er Xv Bu
 ac6:cL K mg j6 MN jq
 aop:cL K mg Mj px qy
 abP:cL K mg rE Ng oW
 Wg:cL K mg qU yP nM
 RL:cL K mg lM qT jf
 ajv:cL K mg Kg dS Gq
 agA:cL K mg Fv BX Af
 aeT:cL K mg Fx Q7 yH
 anB:cL K mg TX py Lr
 aib:cL K mg J1 Dv Ew
 aga:cL K mg Gr JX zy
 afK:cL K mg Fg FZ Ay
 ahI:cL K mg J2 Um GQ
 af5:cL K mg zZ RP uY
 ajC:cL K mg J7 Xc GK
 ai9:cL K mg Fw Yr Bc
 Rt:cL K mg lZ qW jj
 agI:cL K mg Gd JZ zP
 ac5:cL K mg Bp Kv vd
 adZ:cL K mg BP zf vg
def bb(D:a')(C:Addr):Prop:=C=D.Door\/C=D.Sure\/C=D.Mixed\/C=D.Toss\/C=D.Even\/C=D.Hall
variable{K:Frag}{mg:Str->Ω}{D:a'}{c a r s:Rat}{b:Int}{i m n k O N X W U S:Nat}{x y v':Nat->Rat}{j F:zI}{Q:Type}{o:xy}{I L:wv}{C:zS}{A M J:xz}{d:Φ}{σ:L2.St}{H:Hp}
def Txt.cl(T:Txt K mg D):∀C,bb D C->Cls K C:=by
 rintro C (rfl|rfl|rfl|rfl|rfl|rfl)
 .exact T.acO
 .exact T.ael
 .exact T.aa5
 .exact T.adb
 .exact T.abR
 .exact T.i_
def Txt.Eo(T:Txt K mg D):∀C,bb D C->cD K C "leads":=by
 rintro C (rfl|rfl|rfl|rfl|rfl|rfl)
 .exact T.O_
 .exact T.Ot
 .exact T.Lq
 .exact T.Nv
 .exact T.Oc
 .exact T.Ox
def Txt.Kd(T:Txt K mg D):∀C,bb D C->cD K C "name":=by
 rintro C (rfl|rfl|rfl|rfl|rfl|rfl)
 .exact T.Tv
 .exact T.Ur
 .exact T.Oz
 .exact T.Tj
 .exact T.Rh
 .exact T.Te
def Txt.DG(T:Txt K mg D):∀C,bb D C->cD K C "numbers":=by
 rintro C (rfl|rfl|rfl|rfl|rfl|rfl)
 .exact T.JC
 .exact T.Jm
 .exact T.HB
 .exact T.Jq
 .exact T.Js
 .exact T.Jt
def Txt.Lj(T:Txt K mg D):∀C,bb D C->cD K C "offered":=by
 rintro C (rfl|rfl|rfl|rfl|rfl|rfl)
 .exact T.Jv
 .exact T.Jw
 .exact T.G9
 .exact T.Jp
 .exact T.Jo
 .exact T.JD
def Txt.acI(T:Txt K mg D):∀C,bb D C->cD K C "pay":=by
 rintro C (rfl|rfl|rfl|rfl|rfl|rfl)
 .exact T.WX
 .exact T.VB
 .exact T.T9
 .exact T.Vy
 .exact T.WT
 .exact T.Ut
def Txt.zX(T:Txt K mg D):∀C,bb D C->cD K C "share":=by
 rintro C (rfl|rfl|rfl|rfl|rfl|rfl)
 .exact T.NQ
 .exact T.O2
 .exact T.K5
 .exact T.Ob
 .exact T.Og
 .exact T.Od
def dO(D:a')(C:Addr):Prop:=C=D.Door\/C=D.Sure\/C=D.Mixed\/C=D.Toss\/C=D.Even
def dO.fam{C:Addr}(h:dO D C):bb D C:=by
 unfold dO at h;unfold bb;rcases h with h|h|h|h|h<;>simp[h]
def Txt.Tq(T:Txt K mg D):∀C,dO D C->Meth K C "ways" D.Door_ways:=by
 rintro C (rfl|rfl|rfl|rfl|rfl)
 .exact T.R5
 .exact T.R8
 .exact T.NZ
 .exact T.Sh
 .exact T.Td
section
variable{P:Program}{w:World}{K:Frag}{mg:Str->Ω}{base:Heap}{D:a'}{f:Addr}{G:FuncData}
abbrev r9(f:Β):T:=.tup [.int f.1,.int f.2]
def GY:T->Option Bool
 |.int _=>some true
 |.bl _=>some false
 |.non=>some false
 |.str _=>some false
 |.tup _=>some false
 |.lst _=>some false
 |_=>none
def jA:ST:=λa q=>∃t b,a=[t]/\GY t=some b/\q (.fz (.bl b))
def Jb(F:Fun K gO gO Dl f G)(T:Txt K mg D):bW P w K mg base ab 1 f G fL (am K jA):=by
 refine F.okT WR (λ_ _=>bH (bN (LR (vJ .int wn T.fJ T.Pj boot_int) (M6 (Ks (vJ .bool wn T.fJ T.adh boot_bool)))))) ?_;rintro _ R ⟨t,b,rfl,h,q⟩;cases t<;>cases h<;>exact q
def oV:ST:=λc q=>∃a b,c=[.int a,.int b]/\q (.fz (.int (Int.gcd a b)))
def Kw(F:Fun K jB jB HY f G)(T:Txt K mg D):bW P w K mg base ab 1 f G cT (am K oV):=by
 refine F.okT XS (λc _=>bF (bO 2 (bY MF T.UJ boot_abs (bx wn bC)))
  (bF (bO 3 (bY MF T.UJ boot_abs (bx we bC)))
  (bF (GZ (cj (qG c.units) wP bA)
  (bF (bO 4 (bL cM wa wP))
  (bF (bO 2 wP)
  (bH (bO 3 wE)))))
  (bH (bN wa))))) ?_
 rintro _ R ⟨a,b,rfl,q⟩;refine⟨λm o=>∃(l r:Nat)(x:OT),o=[.fz (.int a),.fz (.int b),.fz (.int l),.fz (.int r),x]/\Nat.gcd l r=Int.gcd a b/\m=r,⟨_,_,_,_,rfl,rfl,rfl⟩,?_⟩;rintro m _ ⟨l,r,x,rfl,d,e⟩;refine iq (λh=>?_) λh=>?_
 .have c:r≠0:=by intro z;subst z;cases h
  refine⟨λo=>∃x,o=[.fz (.int a),.fz (.int b),.fz (.int r),.fz (.int ((l%r:Nat):Int)),x],?_,?_⟩
  .rintro _ ⟨x,rfl⟩;exact⟨l%r,by have:=mod_lt l (Nat.pos_of_ne_zero c);lia,r,l%r,x,rfl,(gcd_comm r (l%r)).trans ((Nat.gcd_rec r l).symm.trans ((gcd_comm r l).trans d)),rfl⟩
  .exact⟨by lia,_,by rw[Int.natCast_emod];rfl⟩
 .have c:r=0:=by
   by_cases z:r=0
   .exact z
   .have:(decide ((r:Int)=0))=false:=Zp wp;rw[show xr true (decide ((r:Int)=0)) = !decide ((r:Int)=0)from rfl,this]at h;cases h
  subst c;rw[Nat.gcd_zero_right]at d;rw[<- d]at q;exact q
structure mi(t b x y:Int):Prop where
 pos:0<y
 gcd:Int.gcd x y=1
 eq:x*b=t*y
 lx:x.natAbs<=t.natAbs
 ly:y.natAbs<=b.natAbs
def Ms{c q:Int}(h:c≠0):fdiv (c*q) c=q:=by
 rw[Int.fdiv_eq_ediv_of_dvd (Int.dvd_mul_right c q),kc _ h]
def K7{c q:Int}(h:c≠0):q.natAbs<=(c*q).natAbs:=by
 rw[VW];exact l5 _ wp
def yr{t c:Int}(i:b≠0)(a:c≠0)(d:c.natAbs=Int.gcd t b)(f:0<c*b):mi t b (fdiv t c) (fdiv b c):=by
 have h:c ∣ t:=Int.natAbs_dvd.mp (by rw[d];exact Int.gcd_dvd_left t b);have g:c ∣ b:=Int.natAbs_dvd.mp (by rw[d];exact QR t b);obtain⟨x,rfl⟩:=h;obtain⟨y,rfl⟩:=g;rw[Ms a,Ms a];refine⟨?_,?_,?_,K7 a,K7 a⟩
 .rw[<- Int.mul_assoc]at f;have e:0<c*c:=by
   rcases Int.lt_or_lt_of_ne a with z|z
   .exact Int.mul_pos_of_neg_of_neg z z
   .exact XZ z z
  exact Int.pos_of_mul_pos_right f e
 .rw[Int.gcd_mul_left]at d;have e:0<c.natAbs:=by lia
  exact Nat.eq_of_mul_eq_mul_left e (by rw[Nat.mul_one];exact d.symm)
 .rw[Int.mul_left_comm,Int.mul_assoc]
def pH{a:Int}(c:b≠0):(0:Int)<(Int.gcd a b:Nat):=by
 have:=lR a c;lia
def Pn{i j:Int}(h:i.natAbs<=j.natAbs)(k:Bd j):Bd i:=Y3 h k
theorem D7{i:Int}(h:Bd i):Bd (-i):=by unfold Bd at *;rwa[natAbs_neg]
def Xg{a:Int}(c:b≠0)(h:Bd b):Bd ((Int.gcd a b:Nat):Int):=Pn (by
 have:=UX wp (Int.gcd_dvd_natAbs_right a b);omega) h
def uW:ST:=λa q=>∃t b,a=[.int t,.int b]/\b≠0/\Bd b/\∀x y,mi t b x y->q (.fz (r9 (x,y)))
def Wh(F:Fun K pU pU QV f G)(T:Txt K mg D)(g:ag P w K mg base 1 gO fL jA)(i:ag P w K mg base 1 jB cT oV):bW P w K mg base ab 2 f G nW (am K uW):=by
 refine F.okT adL (λh _=>bF (cG (QW.qt (g8 (cX (cN (bI g (bx wn bC)))) (eX (cX (cN (bI g (bx we bC)))))))
  (bH eZ)
  bQ)
  (bF (cG (cj (yA h.units) we bA)
  (bH eZ)
  bQ)
  (bF (bO 2 (bI i (bx wn (bx we bC))))
  (bF (cG (cj Cy we bA)
  (bH (bO 2 (ux wa)))
  bQ)
  (bH (bN (dB (bx (bL o7 wn wa) (bx (bL o7 we wa) bC))))))))) ?_
 rintro _ R ⟨t,b,rfl,c,hd,q⟩;refine⟨_,_,rfl,rfl,_,_,rfl,rfl,?_⟩;have d:=pH (a:=t) c;have g1:=Xg (a:=t) c hd;refine dy (Zp c) ⟨_,_,rfl,c4 (λe=>⟨⟨by omega,D7 g1⟩,⟨by omega,D7 g1⟩,q _ _ (yr c (by omega) wp (Int.mul_pos_of_neg_of_neg wp e))⟩) λe=>⟨⟨by exact WP d,g1⟩,⟨by exact WP d,g1⟩,q _ _ (yr c (WP d) wp (XZ d wp))⟩⟩
abbrev aa(r:Rat):T:=.tup [.int r.num,.int r.den]
def jY{t x y:Int}(h:mi t b x y)(c:b≠0):r9 (x,y)=aa (divInt t b):=by
 have a:=h.pos;have e:divInt t b=⟨x,y.toNat,by lia,by have:=h.gcd;unfold Int.gcd at this;rw[show y.toNat=y.natAbs by lia];exact this⟩:=by
  rw[Rat.mk_eq_divInt,show((y.toNat:Nat):Int)=y by exact Int.toNat_of_nonneg (XY a)];exact(QQ c (WP a)).mpr h.eq.symm
 rw[e];show T.tup [.int x,.int y]=.tup [.int x,.int (y.toNat:Nat)];rw[show((y.toNat:Nat):Int)=y by exact Int.toNat_of_nonneg (XY a)]
def rd(r:Rat):divInt r.num r.den=r:=Rat.num_divInt_den r
def kZ(r:Rat):((r.den:Nat):Int)≠0:=by have:=r.den_pos;lia
def Bq(r:Rat):Prop:=Bd r.num/\Bd (r.den:Nat)
def Kc:ST:=λc q=>∃a b:Rat,c=[aa a,aa b]/\Bq a/\Bq b/\Bd ((a.den:Int)*b.den)/\q (.fz (aa (a+b)))
def vA:ST:=λc q=>∃a b:Rat,c=[aa a,aa b]/\Bq a/\Bq b/\Bd ((a.den:Int)*b.den)/\q (.fz (aa (a-b)))
def Fy:ST:=λc q=>∃a b:Rat,c=[aa a,aa b]/\Bq a/\Bq b/\Bd ((a.den:Int)*b.den)/\q (.fz (aa (a*b)))
def J8:ST:=λc q=>∃a b:Rat,c=[aa a,aa b]/\b≠0/\Bq a/\Bq b/\Bd ((a.den:Int)*b.num)/\q (.fz (aa (a/b)))
def rZ:ST:=λc q=>∃a b:Rat,c=[aa a,aa b]/\Bq a/\Bq b/\q (.fz (.bl (decide (a<b))))
def qx{a:Int}(d:a≠0)(c:b≠0):a*b≠0:=λz=>(Int.mul_eq_zero.mp z).elim d c
section
variable(Z:ag P w K mg base 2 pU nW uW)
include Z
def Zk(F:Fun K BR BR YC f G):bW P w K mg base ab 3 f G vO (am K Kc):=by
 refine F.okT ZI (λ_ _=>bH (bN (bI Z (bx (bL dg (bL cQ (bJ wn bA) (bJ we bA)) (bL cQ (bJ we bA) (bJ wn bA))) (bx (bL cQ (bJ wn bA) (bJ we bA)) bC))))) ?_;rintro _ R ⟨a,b,rfl,d,c,hd,q⟩;refine⟨⟨d.1,c.2⟩,⟨c.1,d.2⟩,⟨d.2,c.2⟩,_,_,rfl,qx (kZ a) (kZ b),hd,λx y l=>?_⟩;rw[jY l (qx (kZ a) (kZ b)),<- ke _ _ (kZ a) (kZ b),rd,rd];exact q
def adS(F:Fun K pR pR SQ f G):bW P w K mg base ab 3 f G m9 (am K vA):=by
 refine F.okT ab2 (λ_ _=>bH (bN (bI Z (bx (bL qw (bL cQ (bJ wn bA) (bJ we bA)) (bL cQ (bJ we bA) (bJ wn bA))) (bx (bL cQ (bJ wn bA) (bJ we bA)) bC))))) ?_;rintro _ R ⟨a,b,rfl,d,c,hd,q⟩;refine⟨⟨d.1,c.2⟩,⟨c.1,d.2⟩,⟨d.2,c.2⟩,_,_,rfl,qx (kZ a) (kZ b),hd,λx y l=>?_⟩;rw[jY l (qx (kZ a) (kZ b)),<- Rat.divInt_sub_divInt _ _ (kZ a) (kZ b),rd,rd];exact q
def Vd(F:Fun K uT uT Q6 f G):bW P w K mg base ab 3 f G sV (am K Fy):=by
 refine F.okT aci (λ_ _=>bH (bN (bI Z (bx (bL cQ (bJ wn bA) (bJ we bA)) (bx (bL cQ (bJ wn bA) (bJ we bA)) bC))))) ?_;rintro _ R ⟨a,b,rfl,d,c,hd,q⟩;refine⟨⟨d.1,c.1⟩,⟨d.2,c.2⟩,_,_,rfl,qx (kZ a) (kZ b),hd,λx y l=>?_⟩;rw[jY l (qx (kZ a) (kZ b)),<- ki,rd,rd];exact q
def ZM(F:Fun K Bw Bw Xd f G):bW P w K mg base ab 3 f G w6 (am K J8):=by
 refine F.okT SZ (λ_ _=>bH (bN (bI Z (bx (bL cQ (bJ wn bA) (bJ we bA)) (bx (bL cQ (bJ wn bA) (bJ we bA)) bC))))) ?_;rintro _ R ⟨a,b,rfl,g,e,d,hd,q⟩;have c:b.num≠0:=λz=>g (by rw[<- rd b,z];exact QP _);refine⟨⟨e.1,d.2⟩,⟨e.2,d.1⟩,_,_,rfl,qx (kZ a) c,hd,λx y l=>?_⟩;rw[jY l (qx (kZ a) c),<- ki,rd,<- Rat.inv_def,<- div_def];exact q
end
def UL(F:Fun K ni ni QH f G):bW P w K mg base ab 1 f G mj (am K rZ):=by
 refine F.okT _5 (λ_ _=>bH (bN (xK Cy (bL cQ (bJ wn bA) (bJ we bA)) (bL cQ (bJ we bA) (bJ wn bA))))) ?_;rintro _ R ⟨a,b,rfl,d,c,q⟩;refine⟨⟨d.1,c.2⟩,⟨c.1,d.2⟩,?_⟩;rw[show decide (a<b)=decide (a.num*(b.den:Int)<b.num*(a.den:Int))from decide_eq_decide.mpr (lt_iff a b)]at q;exact q
def t_:ST:=λa q=>∃r:Rat,a=[aa r]/\q (.fz (.bl true))
def VH(F:Fun K mX mX DW f G)(T:Txt K mg D)(b:ag P w K mg base 1 gO fL jA)(c:ag P w K mg base 1 jB cT oV):bW P w K mg base ab 2 f G jK (am K t_):=by
 refine F.okT VG (λa _=>bF (cG (QW.qt (g8 (cX (cN (vJ .tuple wn T.fJ T.Zy boot_tuple))) (eX (cj (qG a.units) (bY eF T.gk VY (bx wn bC)) bA))))
  (bH (bN mW))
  bQ)
  (bF (bO 1 (bJ wn bA))
  (bF (bO 2 (bJ wn bA))
  (bF (cG (QW.qt (g8 (cX (cN (bI b (bx we bC)))) (eX (cX (cN (bI b (bx wa bC)))))))
  (bH (bN mW))
  bQ)
  (bH (bN (LR (xK CS wa bA) (M6 (xK (yA a.units) (bI c (bx we (bx wa bC))) bA))))))))) ?_
 rintro _ R ⟨r,rfl,q⟩;refine⟨_,_,rfl,rfl,_,_,rfl,rfl,?_⟩;have:=r.den_pos;refine fe (Zs wp) ⟨_,_,rfl,?_⟩;rw[show Int.gcd r.num r.den=1 from r.reduced];exact q
def K3:xz->Nat
 |[]=>1
 |r::u=>Nat.lcm r.den (K3 u)
def b_(n:Nat):xz->Nat
 |[]=>n
 |r::u=>b_ (Nat.lcm n r.den) u
theorem eE:∀(u:xz){n:Nat},0<n->0<b_ n u
 |[],_,h=>h
 |r::u,_,h=>eE u (Nat.lcm_pos h r.den_pos)
theorem jE:∀(u:xz){n:Nat},n ∣ b_ n u/\∀r∈u,r.den ∣ b_ n u
 |[],n=>⟨Qr n,λ_ z=>(nomatch z)⟩
 |r::u,n=>by
  obtain⟨a,b⟩:=jE u (n:=Nat.lcm n r.den);refine⟨TR (Nat.dvd_lcm_left ..) a,λx c=>?_⟩;rcases YU.mp c with rfl|z
  .exact TR (Nat.dvd_lcm_right ..) a
  .exact b x z
theorem jU:∀(u:xz){n m:Nat},n ∣ m->(∀r∈u,r.den ∣ m)->b_ n u ∣ m
 |[],_,_,h,_=>h
 |r::u,_,_,h,k=>jU u (Nat.lcm_dvd h (k r (aO ..))) λx a=>k x (aJ _ a)
theorem KZ:∀(b a:xz)(n:Nat),b_ n (b++a)=b_ (b_ n b) a
 |[],_,_=>rfl
 |_::b,a,_=>KZ b a _
def tops(B:Nat)(u:xz):xm:=u.map λr=>r.num*((B/r.den:Nat):Int)
def Yz(h:Bd (n:Int))(l:m<=n):Bd (m:Int):=Pn (by omega) h
def _A(n d:Nat):(fdiv (n:Int) ((Int.gcd n d:Nat):Int))*d=((Nat.lcm n d:Nat):Int):=by
 rw[show Int.gcd (n:Int) (d:Int)=Nat.gcd n d from rfl,Int.fdiv_eq_ediv_of_dvd (Int.natCast_dvd_natCast.mpr (Nat.gcd_dvd_left n d)),<- Int.natCast_ediv,<- Ts,Nat.lcm,Nat.div_mul_right_comm (Nat.gcd_dvd_left n d)]
def K8(m n:Nat):fdiv (m:Int) (n:Int)=((m/n:Nat):Int):=by rw[lL _ (WZ _)];rfl
def vq:ST:=λa q=>∃u:xz,a=[.lst (u.map aa)]/\u.length<=1000/\(∀r∈u,Bd r.num)/\Bd (b_ 1 u:Nat)/\q (.fz (.tup [.lst ((tops (b_ 1 u) u).map T.int),.int (b_ 1 u:Nat)]))
def W5(F:Fun K p7 p7 J6 f G)(s:ag P w K mg base 1 jB cT oV):bW P w K mg base ab 2 f G nZ (am K vq):=by
 refine F.okT _B (λ_ _=>bF (bO 1 bA)
  (bF (eV (cI wn) (cB (n:=99) 2)
  (bH (bO 1 (bL cQ (bL o7 we (bI s (bx we (bx (bJ wa bA) bC)))) (bJ wa bA)))))
  (bH (bN (dB (bx (c7 (bG J6) EZ ["fractions","bottom","?one"] ["one"] (cI wn) (d_ (i:=0)) cC (bL cQ (bJ wn bA) (bL o7 wa (bJ wn bA)))) (bx we bC))))))) ?_
 rintro _ R ⟨u,rfl,l,m,d,q⟩;refine gG aa u (λb o=>∃x,o=[.fz (.lst (u.map aa)),.fz (.int (b_ 1 b:Nat)),x]) ⟨_,rfl⟩ ?_ ?_
 .rintro b a h _ e ⟨x,rfl⟩;have t:=(jE (a::h) (n:=b_ 1 b)).1;have k:b_ 1 u=b_ (b_ 1 b) (a::h):=by rw[e];exact KZ b (a::h) 1
  have y:=eE b VU;have c:=eE u VU;have v:Bd (b_ 1 b:Nat):=Yz d (k ▸ UX (k ▸ c) t);have g:Bd (a.den:Nat):=Yz d (UX c ((jE u).2 a (e ▸ by simp)));refine⟨_,_,rfl,⟨by have:=pH (a:=(b_ 1 b:Nat)) (kZ a);exact WP this,Xg (kZ a) g⟩,⟨Pn ?_ v,g⟩,.fz (aa a),?_⟩
  .rw[show Int.gcd ((b_ 1 b:Nat):Int) (a.den:Int)=Nat.gcd (b_ 1 b) a.den from rfl,K8];exact Q1 ..
  .rw[_A,KZ]
   rfl
 .rintro _ ⟨x,rfl⟩;refine⟨aL (by simpa using l) wf,comp_map aa (λr=>.int (r.num*((b_ 1 u/r.den:Nat):Int))) u (λr j N M p=>?_) ?_⟩
  .have g:Bd (r.den:Nat):=Yz d (UX (eE u VU) ((jE u).2 r j));refine⟨⟨kZ r,g⟩,⟨m r j,Pn ?_ d⟩,?_⟩
   .rw[K8];exact Q1 ..
   .rw[K8];exact p
  .have:(tops (b_ 1 u) u).map T.int=u.map (λr=>.int (r.num*((b_ 1 u/r.den:Nat):Int))):=by unfold tops;rw[WJ];rfl
   rw[this]at q;exact q
def ZV(l:xE):Bool:=decide (1<=l.length)&&decide (l.length<=8)&&l.all λc=>decide (97<=c)&&decide (c<=122)
abbrev Wd(n:Str):Prop:=ZV n.cps.toList=true
def Wd.len{n:Str}(h:Wd n):1<=n.length/\n.length<=8:=by
 unfold Wd ZV at h;simp only[and_eq_true,decide_eq_true_eq,Array.length_toList]at h;exact h.1
def Zc(c d:Nat):(!decide ((⟨#[d]⟩ : Str).cps.toList<(⟨#[c]⟩ : Str).cps.toList))=decide (c<=d):=by
 have:((⟨#[d]⟩ : Str).cps.toList<(⟨#[c]⟩ : Str).cps.toList)↔d<c:=by
  show[d]<[c]↔d<c;constructor
  .intro h;cases h with
   |rel h=>exact h
   |cons h=>cases h
  .exact λh=>.rel h
 rw[show decide ((⟨#[d]⟩ : Str).cps.toList<(⟨#[c]⟩ : Str).cps.toList)=decide (d<c)from decide_eq_decide.mpr this];by_cases h:c<=d
 .rw[Zs h,Zp (JY h)];rfl
 .rw[Zp h,Zs (Nat.lt_of_not_le h)];rfl
def xu:ST:=λa q=>∃n:Str,a=[.str n]/\Wd n/\q (.fz (.bl true))
def XQ(F:Fun K oU oU Bt f G)(T:Txt K mg D):bW P w K mg base ab 1 f G mL (am K xu):=by
 refine F.okT YW (λ_ _=>bF (cG (QW.qt (g8 (cX (cN (vJ .str wn T.fJ T.amk boot_str))) (eX (cX (FW CG CG bA (bY ZE T.gk VY (bx wn bC)) (Nk T.Kr λ_=>.int _))))))
  (bH (bN mW))
  bQ)
  (bH (bN (bY (W8 rfl) T.adG boot_all (bx (c7 (bG Bt) HF HF ["sign"] (OZ wn) (d_ (i:=0)) cC (VR EA EA xP wn xP)) bC))))) ?_
 rintro _ R ⟨n,rfl,a,q⟩;obtain⟨k,e⟩:=a.len;refine⟨aL e wf,fe (Zs wp) (dy (by rw[Zs (show((n.length:Nat):Int)<=8 by lia)];rfl) ⟨by rw[ak];exact aL e wf,comp_map (λc=>.str ⟨#[c]⟩) (λc=>.bl (decide (97<=c)&&decide (c<=122))) n.cps.toList (λc _ N M d=>?_) ⟨n.cps.toList.map λc=>decide (97<=c)&&decide (c<=122),by rw[WJ];rfl,?_⟩⟩)⟩
 .have g:(!decide ((⟨#[c]⟩ : Str).cps.toList<("a":Str).cps.toList))=decide (97<=c):=by rw[show("a":Str)=⟨#[97]⟩from by decide +kernel];exact Zc 97 c
  have j:(!decide (("z":Str).cps.toList<(⟨#[c]⟩ : Str).cps.toList))=decide (c<=122):=by rw[show("z":Str)=⟨#[122]⟩from by decide +kernel];exact Zc c 122
  refine iq (λh=>?_) λh=>?_
  .rw[<- g,h,<- j]at d;exact d
  .rw[<- g,h]at d;exact d
 .have:((n.cps.toList.map λc=>decide (97<=c)&&decide (c<=122)).all λb=>b)=true:=by
   unfold Wd ZV at a;rw[and_eq_true]at a;rw[all_map];exact a.2
  rw[<- this]at q;exact q
def uz:ST:=λa q=>∃(n:Str)(r:Rat),a=[.str n,aa r]/\Wd n/\q (.fz .non)
def Oa(F:Fun K lX lX vH f G)(a:ag P w K mg base 1 oU mL xu)(b:ag P w K mg base 2 mX jK t_):bW P w K mg base ab 3 f G jh (am K uz):=by
 refine F.okT Ov (λ_ _=>bF (cG (cX (cN (bI a (bx wn bC))))
  (bH eZ)
  bQ)
  (bH (cG (cX (cN (bI b (bx we bC))))
  (bH eZ)
  bQ))) ?_
 rintro _ R ⟨n,r,rfl,c,q⟩;exact⟨_,rfl,c,_,rfl,q⟩
def mO:ST:=λa q=>∃n:Str,a=[.str n]/\Wd n/\q (.fz .non)
def Dq(F:Fun K fZ fZ nG f G)(a:ag P w K mg base 1 oU mL xu):bW P w K mg base ab 2 f G eN (am K mO):=by
 refine F.okT Dw (λ_ _=>bH (cG (cX (cN (bI a (bx wn bC))))
  (bH eZ)
  bQ)) ?_
 rintro _ R ⟨n,rfl,b,q⟩;exact⟨_,rfl,b,q⟩
def Ch(r:Rat):Prop:=0<=r/\r<=1/\Bd (r.den:Nat)
def Ch.bq(h:Ch r):Bq r:=by
 have b:=Rat.num_nonneg.mpr h.1;have a:=(le_iff r 1).mp h.2.1;exact⟨Pn (by have:r.num*((1:Rat).den:Int)<=(1:Rat).num*(r.den:Int):=a;simp at this;omega) h.2.2,h.2.2⟩
def lg:Bq 0:=⟨Nat.two_pow_pos 8000,Nat.one_lt_two_pow wf⟩
def hh:Bq 1:=⟨Nat.one_lt_two_pow wf,Nat.one_lt_two_pow wf⟩
def qm:ST:=λa q=>∃r:Rat,a=[aa r]/\Ch r/\q (.fz .non)
def JN(F:Fun K jc jc sH f G)(T:Txt K mg D)(c:ag P w K mg base 2 mX jK t_)(b:ag P w K mg base 1 ni mj rZ):bW P w K mg base ab 3 f G gC (am K qm):=by
 refine F.okT Jy (λ_ _=>bH (cG (QW.qt (g8 (cX (cN (bI c (bx wn bC)))) (g8 (cN (bI b (bx wn (bx (lF T.iY T.gA) bC)))) (eX (cN (bI b (bx (lF T.Gm T.xq) (bx wn bC))))))))
  (bH eZ)
  bQ)) ?_
 rintro _ R ⟨r,rfl,a,q⟩;refine⟨_,rfl,r,0,rfl,a.bq,lg,?_⟩;rw[Zp (Rat.not_lt.mpr a.1)];refine⟨1,r,rfl,hh,a.bq,?_⟩;rw[Zp (Rat.not_lt.mpr a.2.1)];exact q
def FJ(u:xz):Rat:=u.foldr (· + ·) 0
theorem V5{B:Nat}(e:B≠0):∀{u:xz},(∀r∈u,r.den ∣ B)->divInt (tops B u).sum B=FJ u
 |[],_=>by show divInt 0 _=0;exact QP _
 |r::u,h=>by
  have c:=V5 e (u:=u) λx d=>h x (aJ _ d);have a:((B:Nat):Int)≠0:=by lia
  obtain⟨m,b⟩:=h r (aO ..);show divInt (r.num*((B/r.den:Nat):Int)+(tops B u).sum) B=r+FJ u;have f:r+FJ u=divInt (r.num*B+(tops B u).sum*r.den) (r.den*B):=by rw[<- ke _ _ (kZ r) a,rd,c]
  rw[f];refine(QQ a (qx (kZ r) a)).mpr ?_;have:B/r.den=m:=by rw[b];exact Nat.mul_div_cancel_left _ r.den_pos
  rw[this,b];simp only[Ts]
  grind
def U3:ST:=λa q=>∃u:xz,a=[.lst (u.map aa)]/\u.length<=1000/\(∀r∈u,Bd r.num)/\Bd (b_ 1 u:Nat)/\q (.fz (aa (FJ u)))
def ab1(F:Fun K Ea Ea TF f G)(T:Txt K mg D)(g:ag P w K mg base 2 p7 nZ vq)(Z:ag P w K mg base 2 pU nW uW):bW P w K mg base ab 3 f G yI (am K U3):=by
 refine F.okT _y (λ_ _=>bF (bO 1 (bI g (bx wn bC)))
  (bH (bN (bI Z (bx (bY (XM rfl) T.ab3 boot_sum (bx (bJ we bA) bC)) (bx (bJ we bA) bC)))))) ?_
 rintro _ R ⟨u,rfl,c,e,b,q⟩;have d:=eE u VU;have a:((b_ 1 u:Nat):Int)≠0:=by lia
 refine⟨u,rfl,c,e,b,_,rfl,_,_,rfl,a,b,λx y l=>?_⟩;rw[jY l a,V5 (UK d) (jE u).2];exact q
abbrev cg(p:Str×Rat):T:=.tup [.str p.1,aa p.2]
def Ai:ST:=λa q=>∃F:xf,a=[.lst (F.map cg)]/\F.length<=1000/\(∀p∈F,Wd p.1/\Ch p.2)/\Bd (b_ 1 (F.map (·.2)):Nat)/\FJ (F.map (·.2))=1/\q (.fz .non)
def Mi(b:Fun K oN oN pK f G)(T:Txt K mg D)(s:ag P w K mg base 2 fZ eN mO)(g:ag P w K mg base 3 jc gC qm)(u:ag P w K mg base 3 Ea yI U3):bW P w K mg base ab 4 f G jM (am K Ai):=by
 refine b.okT Ky (λc _=>bF (eV (cI wn) (fH (n:=2) (bT (cB (n:=99) 1) (bT (cB (n:=99) 2) dN)))
  (bF (jy (bI s (bx we bC)))
  (bH (jy (bI g (bx wa bC))))))
  (bH (cG (cj (qG c.units) (bI u (bx (c7 (bG pK) uw uw ["pair"] (cI wn) (d_ (i:=0)) cC (bJ wn bA)) bC)) (lF T.Gm T.xq))
  (bH eZ)
  bQ))) ?_
 rintro _ R ⟨F,rfl,C,d,k,h,q⟩;refine gG cg F (λ_ o=>∃x y,o=[.fz (.lst (F.map cg)),x,y]) ⟨_,_,rfl⟩ ?_ ?_
 .rintro z a v _ e ⟨x,y,rfl⟩;obtain⟨m,l⟩:=d a (e ▸ by simp);exact⟨rfl,_,rfl,m,_,rfl,l,_,_,rfl⟩
 .rintro _ ⟨x,y,rfl⟩;refine⟨aL (by simpa using C) wf,comp_map cg (λp=>aa p.2) F (λp _ N M j=>j) ⟨F.map (·.2),by rw[WJ];rfl,by simpa using C,λr c=>?_,k,?_⟩⟩
  .obtain⟨p,t,rfl⟩:=YV.mp c;exact(d p t).2.bq.1
  .rw[h];exact q
def cc(j:xf)(p:Str×Rat):xf:=if(j.any λx=>decide (x.1=p.1))=true then j.map (λx=>if x.1=p.1 then(x.1,x.2+p.2)else x)else j++[p]
def lU(F:xf):xf:=F.foldl cc []
abbrev d7(j:xf):xi:=j.map λx=>.inr x.1
abbrev fb(j:xf):xj:=j.map λx=>aa x.2
def RF(j:xf)(n:Str):TQ (d7 j) (.inr n)=j.any λx=>decide (x.1=n):=by
 unfold TQ;rw[any_map]
 congr 1
 funext x
 exact decide_eq_decide.mpr ⟨λz=>Sum.inr.inj z,λz=>ZH Sum.inr z⟩
theorem X4(n:Str):∀j:xf,rP (d7 j) (fb j) (.inr n)=(j.find? λx=>decide (x.1=n)).map λx=>aa x.2
 |[]=>rfl
 |x::j=>by
  show(if(Sum.inr x.1:bX)=.inr n then some (aa x.2)else rP (d7 j) (fb j) (.inr n))=_;by_cases h:x.1=n
  .rw[ZY (ZH Sum.inr h),List.find?_cons_of_pos (p:=λx:Str×Rat=>decide (x.1=n)) (Zs h)];rfl
  .rw[ZZ λz=>h (Sum.inr.inj z),List.find?_cons_of_neg (p:=λx:Str×Rat=>decide (x.1=n)) (by show ¬decide (x.1=n)=true;rw[Zp h];decide),X4 n j]
def Ds(j:xf)(n:Str):Rat:=((j.find? λx=>decide (x.1=n)).map (·.2)).getD 0
def UE(j:xf)(n:Str):((rP (d7 j) (fb j) (.inr n)).getD (aa 0))=aa (Ds j n):=by
 rw[X4];unfold Ds;cases(j.find? λx=>decide (x.1=n))<;>rfl
def Zx{j:xf}{n:Str}(b:(j.map (·.1)).Nodup){x:Str×Rat}(a:x∈j)(e:x.1=n):(j.find? λy=>decide (y.1=n))=some x:=by
 induction j with
 |nil=>cases a
 |cons y j f =>
  obtain⟨d,c⟩:=List.nodup_cons.mp b;rcases YU.mp a with rfl|z
  .exact List.find?_cons_of_pos (p:=λy:Str×Rat=>decide (y.1=n)) (Zs e)
  .rw[List.find?_cons_of_neg (p:=λy:Str×Rat=>decide (y.1=n)) (by show ¬decide (y.1=n)=true;rw[Zp λw=>d (YV.mpr ⟨x,z,e.trans w.symm⟩)];decide)];exact f c z
def ME(j:xf)(p:Str×Rat)(c:(j.map (·.1)).Nodup):e7 (d7 j) (.inr p.1)=d7 (cc j p)/\d3 (d7 j) (fb j) (.inr p.1) (aa (Ds j p.1+p.2))=fb (cc j p):=by
 unfold e7 d3 cc;rw[RF];by_cases h:(j.any λx=>decide (x.1=p.1))=true
 .rw[ZY h,ZY h,ZY h];refine⟨by simp only[d7,WJ];refine Tk λx _=>?_;show(Sum.inr x.1:bX)=.inr (if x.1=p.1 then(x.1,x.2+p.2)else x).1;split<;>rfl,?_⟩
  clear h
  rw[show fb (j.map λx=>if x.1=p.1 then(x.1,x.2+p.2)else x)=j.map ((λx=>aa x.2) ∘ λx=>if x.1=p.1 then(x.1,x.2+p.2)else x)from WJ]
  suffices H:∀(a:xf),(∀x∈a,x.1=p.1->x.2=Ds j p.1)->zipWith (λ(k:bX)x=>if k=.inr p.1 then aa (Ds j p.1+p.2)else x) (d7 a) (fb a)=a.map ((λx=>aa x.2) ∘ λx=>if x.1=p.1 then(x.1,x.2+p.2)else x)from H j λx b e=>by
   unfold Ds;rw[Zx c b e];rfl
  intro a
  induction a with
  |nil=>intro _;rfl
  |cons x a f =>
   intro H;show zipWith _ (Sum.inr x.1::d7 a) (aa x.2::fb a)=_;rw[zipWith_cons_cons,f λy g=>H y (aJ _ g),map_cons]
   congr 1
   by_cases e:x.1=p.1
   .rw[ZY (ZH Sum.inr e)];show _=aa (if x.1=p.1 then(x.1,x.2+p.2)else x).2;rw[ZY e,H x (aO ..) e]
   .rw[ZZ λz=>e (Sum.inr.inj z)];show _=aa (if x.1=p.1 then(x.1,x.2+p.2)else x).2;rw[ZZ e]
 .rw[ZZ h,ZZ h,ZZ h];have d:Ds j p.1=0:=by
   unfold Ds;rw[List.find?_eq_none.mpr λx b z=>h (List.any_eq_true.mpr ⟨x,b,z⟩)];rfl
  rw[d,Rat.zero_add];simp only[d7,fb,bf];exact⟨rfl,rfl⟩
def E'{Q:Type}[DecidableEq Q]{j:List (Q×Rat)}{p:Q×Rat}(c:(j.map (·.1)).Nodup):((if(j.any λx=>decide (x.1=p.1))=true then j.map (λx=>if x.1=p.1 then(x.1,x.2+p.2)else x)else j++[p]).map (·.1)).Nodup:=by
 by_cases h:(j.any λx=>decide (x.1=p.1))=true
 .rw[ZY h,WJ];rw[show j.map ((λx=>x.1) ∘ λx=>if x.1=p.1 then(x.1,x.2+p.2)else x)=j.map (·.1)from Tk λx _=>by show(if x.1=p.1 then(x.1,x.2+p.2)else x).1=x.1;split<;>rfl];exact c
 .rw[ZZ h,bf];refine List.nodup_append.mpr ⟨c,by simp,λa f b d z=>h ?_⟩;obtain⟨x,e,rfl⟩:=YV.mp f;rw[map_singleton,YR]at d;exact List.any_eq_true.mpr ⟨x,e,Zs (z.trans d)⟩
def UB{j:xf}{p:Str×Rat}(a:(j.map (·.1)).Nodup):((cc j p).map (·.1)).Nodup:=E' a
def aaN(b a:xf):lU (b++a)=a.foldl cc (lU b):=List.foldl_append ..
def U8(F:xf):((lU F).map (·.1)).Nodup:=by
 suffices H:∀(F j:xf),(j.map (·.1)).Nodup->((F.foldl cc j).map (·.1)).Nodup from H F [] .nil
 intro F
 induction F with
 |nil=>exact λ_ h=>h
 |cons p F a=>exact λj h=>a _ (UB h)
def Qh(F:xf):(lU F).length<=F.length:=by
 suffices H:∀(F j:xf),(F.foldl cc j).length<=j.length+F.length from by simpa[lU]using H F []
 intro F
 induction F with
 |nil=>exact λ_=>aG _
 |cons p F a =>
  intro j;have b:(cc j p).length<=j.length+1:=by
   unfold cc;split
   .rw[ak];exact Xs _
   .rw[aA,length_singleton];exact aG _
  have:=a (cc j p);rw[foldl_cons,length_cons];lia
def DH(F:xf):Prop:=∀b a c,F=b++a::c->Bq (Ds (lU b) a.1)/\Bq a.2/\Bd (((Ds (lU b) a.1).den:Int)*a.2.den)
def Fb(F:xf):xf:=(lU F).filter λp=>!decide (p.2=0)
def z8:ST:=λa q=>∃F:xf,a=[.lst (F.map cg)]/\F.length<=1000/\DH F/\q (.l1 ((Fb F).map cg))
def Ld(c:Fun K n_ n_ pG f G)(T:Txt K mg D)(l:ag P w K mg base 3 BR vO Kc):bW P w K mg base ab 4 f G jG (am K z8):=by
 refine c.okT Nj (λg _=>bF (kY 1 QB)
  (bF (eV (cI wn) (fH (n:=2) (bT (cB (n:=99) 2) (bT (cB (n:=99) 3) dN)))
  (bH (R0 1 (Cm g) (bI l (bx (_d 1 (Cm g) wa (lF T.iY T.gA)) (bx wP bC))) wa)))
  (bH (TN 1 (bG pG) Cp ["pairs","chances","?room","chance"] ["room"] (d_ (i:=0)) (Zr (cj (qG g.units) (RD (Cm g) wa wn) (lF T.iY T.gA))) (dB (bx wn (bx (RD (Cm g) wa wn) bC))))))) ?_
 rintro _ R ⟨F,rfl,C,v,q⟩;refine gG cg F (λd o=>∃x y,o=[.fz (.lst (F.map cg)),.d1 (d7 (lU d)) (fb (lU d)),x,y]) ⟨_,_,rfl⟩ ?_ ?_
 .rintro d a J _ e ⟨x,y,rfl⟩;obtain⟨I,H,E⟩:=v d a J e;refine⟨rfl,_,rfl,Ds (lU d) a.1,a.2,ZH (λt=>[t,aa a.2]) (UE (lU d) a.1),I,H,E,_,rfl,?_,.fz (.str a.1),.fz (aa a.2),?_⟩
  .have:=Qh d;have:d.length<=F.length:=by rw[e];simp
   rw[ak];exact Y3 (show _<=1000 by lia) wf
  .obtain⟨r,m⟩:=ME (lU d) a (U8 d);rw[show lU (d++[a])=cc (lU d) a from by rw[aaN];rfl,<- r,<- m]
   rfl
 .rintro _ ⟨x,y,rfl⟩;have s:=Qh F;refine⟨by rw[ak];exact aL (show _<=1000 by exact aL s C) wf,?_⟩;dsimp only;rw[show(d7 (lU F)).map kT=(lU F).map λp=>.str p.1 from WJ];refine ud (λp=>.str p.1) (λp=>!decide (p.2=0)) cg (lU F) (λp u N M A B=>?_) ?_
  rotate_left
  .exact q
  have k:rP (d7 (lU F)) (fb (lU F)) (.inr p.1)=some (aa p.2):=by rw[X4,Zx (U8 F) u rfl];rfl
  refine⟨_,_,rfl,k,?_⟩;have j:(decide (p.2.num=0)&&decide ((p.2.den:Int)=1))=decide (p.2=0):=by
   by_cases z:p.2=0
   .rw[z];decide
   .rw[Zp z,Zp λy=>z (Rat.num_eq_zero.mp y)];rfl
  refine iq (λh=>⟨_,_,rfl,k,A ?_⟩) λh=>B ?_
  .rw[<- h];exact ZH (λb=>!b) j.symm
  .rw[<- h];exact ZH (λb=>!b) j.symm
abbrev v9:Φ:=["name","pay","leads"]
abbrev gy(C:Addr)(n:Str)(p:Rat)(j:xf):T:=.ins C v9 [.str n,aa p,.lst (j.map cg)]
def Tt(D:a'):SI:=λC b a c R=>∃(n:Str)(p:Rat),b=[]/\a=[]/\bb D C/\c=[.str n,aa p]/\Wd n/\R v9 [.str n,aa p,.lst []]
def Ri(F:Fun K En Gy zV f G)(T:Txt K mg D)(d:ag P w K mg base 3 lX jh uz):bW P w K mg base ab 4 f G kO (di K (Tt D)):=by
 refine F.okI T6 (λC l j r R i=>by obtain⟨n,p,_,_,_,e,_⟩:=i;exact e ▸ rfl) wf λt A b s H E m k=>?_;refine⟨_,(bF (jy (bI d (bx we (bx wa bC))))
  (bF (tU (Fm:=bb D) 0 (λC h=>⟨T.cl C h,T.Kd C h⟩) we)
  (bF (tU (Fm:=bb D) 0 (λC h=>⟨T.cl C h,T.acI C h⟩) wa)
  (bH (tU (Fm:=bb D) 0 (λC h=>⟨T.cl C h,T.Eo C h⟩) (eG bC)))))),?_⟩
 rintro a o C _ _ _ R ⟨n,p,rfl,rfl,c,rfl,g,q⟩;exact⟨_,_,rfl,g,⟨c,by decide⟩,⟨c,by decide⟩,⟨c,by decide⟩,_,_,rfl,q⟩
def ac8(D:a'):bb D D.Sure:=by simp[bb]
def aa2(D:a'):bb D D.Mixed:=by simp[bb]
def acP(D:a'):bb D D.Toss:=by simp[bb]
def ad9(D:a'):bb D D.Even:=by simp[bb]
def su(D:a'):bb D D.Hall:=by simp[bb]
def Fh(D:a'):SI:=λC b a c R=>∃(n m:Str)(p:Rat),b=[]/\a=[]/\bb D C/\c=[.str n,aa p,.str m]/\Wd n/\Wd m/\R v9 [.str n,aa p,.lst ([(m,1)].map cg)]
def S_(F:Fun K D_ GX zR f G)(T:Txt K mg D)(d:OkI P w K mg base ab 4 D.Door_init kO (di K (Tt D)))(k:ag P w K mg base 2 fZ eN mO):bW P w K mg base ab 5 f G m7 (di K (Fh D)):=by
 refine F.okI RG (λC r l v R j=>by obtain⟨n,p,_,_,_,_,e,_⟩:=j;exact e ▸ rfl) wf λx A b s H E t o=>?_;refine⟨_,(bF (J3 0 T.GF d T.acn (bx we (bx wa bC)))
  (bF (jy (bI k (bx wP bC)))
  (bH (tU (Fm:=bb D) 0 (λC h=>⟨T.cl C h,T.Eo C h⟩) (eG (bx (dB (bx wP (bx (lF T.Gm T.xq) bC))) bC)))))),?_⟩
 rintro a u C _ _ _ R ⟨n,m,p,rfl,rfl,c,rfl,g,i,q⟩;exact⟨_,_,rfl,rfl,c,rfl,g,_,rfl,i,⟨c,by decide⟩,_,_,rfl,q⟩
structure l_(F:xf):Prop where
 few:F.length<=1000
 ok:∀p∈F,Wd p.1/\Ch p.2
 bd:Bd (b_ 1 (F.map (·.2)):Nat)
 one:FJ (F.map (·.2))=1
 jb:DH F
def Em(D:a'):SI:=λC b a c R=>∃(n:Str)(p:Rat)(F:xf),b=[]/\a=[]/\bb D C/\c=[.str n,aa p,.lst (F.map cg)]/\Wd n/\l_ F/\R v9 [.str n,aa p,.lst ((Fb F).map cg)]
def Oj(b:Fun K CJ Cj wO f G)(T:Txt K mg D)(j:OkI P w K mg base ab 4 D.Door_init kO (di K (Tt D)))(i:ag P w K mg base 4 oN jM Ai)(g:ag P w K mg base 4 n_ jG z8):bW P w K mg base ab 5 f G gR (di K (Em D)):=by
 refine b.okI Nz (λC r m v R l=>by obtain⟨n,p,_,_,_,_,e,_⟩:=l;exact e ▸ rfl) wf λx A c s H E t o=>?_;refine⟨_,(bF (J3 0 T.GF j T.acn (bx we (bx wa bC)))
  (bF (jy (bI i (bx wP bC)))
  (bH (tU (Fm:=bb D) 0 (λC h=>⟨T.cl C h,T.Eo C h⟩) (bI g (bx wP bC)))))),?_⟩
 rintro a u C _ _ _ R ⟨n,p,F,rfl,rfl,d,rfl,k,h,q⟩;exact⟨_,_,rfl,rfl,d,rfl,k,_,rfl,h.few,h.ok,h.bd,h.one,_,rfl,h.few,h.jb,⟨d,by decide⟩,_,_,rfl,q⟩
def Zn(D:a'):SI:=λC b a d R=>∃(n x y:Str)(p c:Rat),b=[]/\a=[]/\bb D C/\d=[.str n,aa p,aa c,.str x,.str y]/\Wd n/\Ch c/\l_ [(x,c),(y,1-c)]/\R v9 [.str n,aa p,.lst ((Fb [(x,c),(y,1-c)]).map cg)]
def TV(F:Fun K E_ Fp yC f G)(T:Txt K mg D)(i:ag P w K mg base 3 lX jh uz)(j:ag P w K mg base 3 jc gC qm)(k:ag P w K mg base 3 pR m9 vA)(o:OkI P w K mg base ab 5 D.Mixed_init gR (di K (Em D))):bW P w K mg base ab 6 f G ou (di K (Zn D)):=by
 refine F.okI S9 (λC u r B R l=>by obtain⟨n,_,_,p,_,_,_,_,e,_⟩:=l;exact e ▸ rfl) wf λI A b s H E v t=>?_;refine⟨_,(bF (jy (bI i (bx we (bx wa bC))))
  (bF (jy (bI j (bx wP bC)))
  (bH (J3 0 T.CZ o T.Ro (bx we (bx wa (bx (eG (bx (dB (bx wE (bx wP bC))) (bx (dB (bx (qv 5) (bx (bI k (bx (lF T.Gm T.xq) (bx wP bC))) bC))) bC))) bC))))))),?_⟩
 rintro a z C _ _ _ R ⟨n,x,y,p,c,rfl,rfl,m,rfl,g,d,h,q⟩;refine⟨_,_,rfl,g,_,rfl,d,1,c,rfl,hh,d.bq,?_,n,p,_,rfl,rfl,m,rfl,g,h,_,_,rfl,q⟩;rw[show(((1:Rat).den:Nat):Int)*(c.den:Int)=(c.den:Int)from JJ _];exact d.2.2
def even(a:Φ):xf:=a.map λr=>(r,mkRat 1 a.length)
def XC(h:0<n):aa (mkRat 1 n)=.tup [.int 1,.int (n:Nat)]:=by
 have:mkRat 1 n=⟨1,n,by exact UK h,by show Nat.Coprime 1 n;exact Nat.coprime_one_left n⟩:=by
  rw[Rat.mk_eq_divInt];rfl
 rw[this]
def E6(D:a'):SI:=λC c b d R=>∃(n:Str)(p:Rat)(a:Φ),c=[]/\b=[]/\bb D C/\d=[.str n,aa p,.lst (a.map T.str)]/\Wd n/\l_ (even a)/\R v9 [.str n,aa p,.lst ((Fb (even a)).map cg)]
def Ud(F:Fun K Ed Es tR f G)(T:Txt K mg D)(o:OkI P w K mg base ab 5 D.Mixed_init gR (di K (Em D))):bW P w K mg base ab 6 f G nY (di K (E6 D)):=by
 refine F.okI Ui (λC v t y R l=>by obtain⟨n,p,_,_,_,_,e,_⟩:=l;exact e ▸ rfl) wf λz A c s H E d u=>?_;refine⟨_,(bH (J3 0 T.CZ o T.Ro (bx we (bx wa (bx (c7 (bG tR) A_ A_ ["room"] (cI wP) (d_ (i:=0)) cC (dB (bx wn (bx (dB (bx bA (bx (bY eF T.gk VY (bx wE bC)) bC))) bC)))) bC))))),?_⟩;rintro a x C _ _ _ R ⟨n,p,b,rfl,rfl,m,rfl,j,h,q⟩;have k:b.length<=1000:=by have:=h.few;rwa[even,ak]at this
 refine⟨by rw[ak];exact aL k wf,comp_map L2.T.str (λr=>cg (r,mkRat 1 b.length)) b (λr d N M g=>?_) ⟨n,p,even b,rfl,rfl,m,?_,j,h,_,_,rfl,q⟩⟩
 .rw[show cg (r,mkRat 1 b.length)=.tup [.str r,aa (mkRat 1 b.length)]from rfl,XC (List.length_pos_of_mem d),<- ak (f:=L2.T.str)]at g;exact g
 .unfold even;rw[WJ]
  rfl
def Ek(D:a'):ST:=λa q=>∃(C:Addr)(n:Str)(p:Rat)(j:xf),a=[gy C n p j]/\bb D C/\q (.l1 (j.map cg))
def TJ(F:Fun K Gx Gu zB f G)(T:Txt K mg D):bW P w K mg base ab 1 f G m8 (am K (Ek D)):=by
 refine F.okT RV (λ_ _=>bH (bN (oX R9 T.M9 boot_list (bx (sE (Fm:=bb D) (λC h=>⟨T.cl C h,T.Eo C h⟩) wn) bC)))) ?_;rintro _ R ⟨C,n,p,j,rfl,a,q⟩;exact⟨a,_,rfl,q⟩
structure bM where
 name:Str
 pay:Rat
 ways:zI
abbrev xB:=Option bM
abbrev xp:=List xB
abbrev zD:=List (List bM)
abbrev dz(p:Nat×Rat):T:=.tup [.int (p.1:Nat),aa p.2]
abbrev cz(o:bM):T:=.tup [.str o.name,aa o.pay,.lst (o.ways.map dz)]
abbrev j8:Φ:=["share","numbers","offered"]
abbrev cp(d:Φ):xi:=d.map Sum.inr
abbrev eS(d:Φ):xj:=(range d.length).map λk:Nat=>.int k
abbrev bu(D:a')(s:Rat)(d:Φ)(l:zD):T:=.ins D.Hall j8 [aa s,.dct (cp d) (eS d),.lst (l.map λds=>.lst (ds.map cz))]
def yL:ST:=λa q=>∃r:Rat,a=[aa r]/\0<=r/\r<1/\Bq r/\q (.fz .non)
def L_(F:Fun K nu nu ug f G)(T:Txt K mg D)(c:ag P w K mg base 2 mX jK t_)(b:ag P w K mg base 1 ni mj rZ):bW P w K mg base ab 3 f G jR (am K yL):=by
 refine F.okT K4 (λ_ _=>bH (cG (QW.qt (g8 (cX (cN (bI c (bx wn bC)))) (g8 (cN (bI b (bx wn (bx (lF T.iY T.gA) bC)))) (eX (cX (cN (bI b (bx wn (bx (lF T.Gm T.xq) bC)))))))))
  (bH eZ)
  bQ)) ?_
 rintro _ R ⟨r,rfl,e,d,a,q⟩;refine⟨_,rfl,r,0,rfl,a,lg,?_⟩;rw[Zp (Rat.not_lt.mpr e)];refine⟨r,1,rfl,a,hh,?_⟩;rw[Zs d];exact q
def ES(d:Φ)(n:Str)(h:n∉d):TQ (cp d) (.inr n)=false:=by
 unfold TQ;rw[any_map];exact List.any_eq_false.mpr λx a z=>h ((Sum.inr.inj (of_decide_eq_true z)) ▸ a)
theorem XH{Q:Type}(n:Str):∀(d:Φ)(a:List Q),n∉d->rP (cp d) a (.inr n)=none
 |[],_,_=>rfl
 |_::_,[],_=>rfl
 |m::d,t::a,h=>by
  show(if(Sum.inr m:bX)=.inr n then some t else rP (cp d) a (.inr n))=none;rw[ZZ λz=>h (by rw[Sum.inr.inj z];exact aO ..)];exact XH n d a λz=>h (aJ _ z)
theorem Y4{Q:Type}{n:Str} : ∀{d:Φ}{a:List Q}{k:Nat}{t:Q},d.Nodup->d[k]?=some n->a[k]?=some t->rP (cp d) a (.inr n)=some t
 |[],_,_,_,_,e,_=>by cases e
 |m::d,[],_,_,_,_,e=>by cases e
 |m::d,u::a,k,t,g,f,c=>by
  obtain⟨i,h⟩:=List.nodup_cons.mp g;show(if(Sum.inr m:bX)=.inr n then some u else rP (cp d) a (.inr n))=some t;cases k with
  |zero=>cases f;cases c;exact ZY rfl
  |succ k =>
   have b:d[k]?=some n:=by simpa using f
   rw[ZZ λ(z:(Sum.inr m:bX)=.inr n)=>i (by rw[Sum.inr.inj z];exact aC b)];exact Y4 h b (by simpa using c)
def SB(d:Φ)(n:Str)(h:n∉d):e7 (cp d) (.inr n)=cp (d++[n])/\d3 (cp d) (eS d) (.inr n) (.int (d.length:Nat))=eS (d++[n]):=by
 unfold e7 d3;rw[ES d n h];refine⟨by rw[ZZ wf];simp[cp],?_⟩;rw[ZZ wf];simp only[eS,aA,length_singleton,range_succ,bf,map_singleton]
abbrev gL(p:Str×xj):T:=.tup [.str p.1,.lst p.2]
def Ck:ST:=λb q=>∃a:List (Str×xj),b=[.lst (a.map gL)]/\a.length<=1000/\(∀p∈a,Wd p.1)/\(a.map (·.1)).Nodup/\q (.d1 (cp (a.map (·.1))) (eS (a.map (·.1))))
def Nu(F:Fun K pB pB wY f G)(T:Txt K mg D)(l:ag P w K mg base 1 oU mL xu):bW P w K mg base ab 2 f G lW (am K Ck):=by
 refine F.okT Ou (λh _=>bF (kY 1 QB)
  (bF (eV (cI wn) (cB (n:=99) 2)
  (bF (bO 3 (bJ wa bA))
  (bF (cG (QW.qt (g8 (cX (cN (bI l (bx wP bC)))) (eX (Xi 1 (EG (Cm h) wP we)))))
  (bH eZ)
  bQ)
  (bH (R0 1 (Cm h) (Lw 1 (bY Zh T.gk VY (bx we bC))) wP)))))
  (bH (mG 1)))) ?_
 rintro _ R ⟨c,rfl,i,m,d,q⟩;refine gG gL c (λb o=>∃x y,o=[.fz (.lst (c.map gL)),.d1 (cp (b.map (·.1))) (eS (b.map (·.1))),x,y]) ⟨_,_,rfl⟩ ?_ ?_
 .rintro b a r _ e ⟨x,y,rfl⟩;have g:a.1∉b.map (·.1):=by
   rw[e,bf,map_cons]at d;exact λz=>(List.nodup_append.mp d).2.2 a.1 z a.1 (aO ..) rfl
  have p:b.length<=c.length:=by rw[e];simp
  refine⟨_,rfl,m a (e ▸ by simp),_,rfl,?_⟩;rw[XH a.1 _ _ g];refine⟨trivial,_,rfl,by rw[ak,ak];exact Y3 (show _<=1000 by exact aL p i) wf,.fz (gL a),.fz (.str a.1),?_⟩;obtain⟨k,j⟩:=SB (b.map (·.1)) a.1 g;rw[bf,map_singleton,<- k,<- j];simp only[ak]
  rfl
 .rintro _ ⟨x,y,rfl⟩;exact q
structure FF(d:Φ)(us:zI):Prop where
 few:us.length<=1000
 lt:∀p∈us,p.1<d.length
abbrev WK(d:Φ)(us:zI):xf:=us.map λp=>(d.getD p.1 ⟨#[]⟩,p.2)
def uX(D:a'):ST:=λb q=>∃(C:Addr)(n:Str)(p:Rat)(d:Φ)(a:zI),b=[gy C n p (WK d a),.dct (cp d) (eS d)]/\dO D C/\d.Nodup/\FF d a/\q (.l1 (a.map dz))
def HJ(F:Fun K kh kh qe f G)(T:Txt K mg D)(l:OkI P w K mg base ab 1 D.Door_ways m8 (am K (Ek D))):bW P w K mg base ab 2 f G ig (am K (uX D)):=by
 refine F.okT Hh (λj _=>bF (kY 2 (eG bC))
  (bF (eV (cI (QE.any λC(c:dO D C)=>u5 wn (T.cl C c.fam) (T.Tq C c) l (KS:=v9))) (fH (n:=2) (bT (cB (n:=99) 3) (bT (cB (n:=99) 4) dN)))
  (bF (cG (abn (Cm j) wP we)
  (bH eZ)
  bQ)
  (bH (uD 2 (dB (bx (RD (Cm j) we wP) (bx wE bC)))))))
  (bH (mG 2)))) ?_
 rintro _ R ⟨C,n,p,d,b,rfl,c,m,i,q⟩;refine⟨C,c,⟨rfl,rfl⟩,C,n,p,_,rfl,c.fam,?_⟩;show yp _ _ _ (List.map cg (WK d b)) _;rw[show(WK d b).map cg=b.map λp=>cg (d.getD p.1 ⟨#[]⟩,p.2)from WJ];refine gG (λp=>cg (d.getD p.1 ⟨#[]⟩,p.2)) b (λh o=>∃x y,o=[.fz (gy C n p (WK d b)),.fz (.dct (cp d) (eS d)),.l1 (h.map dz),x,y]) ⟨_,_,rfl⟩ ?_ ?_
 .rintro h a t _ e ⟨x,y,rfl⟩;have lt:=i.lt a (e ▸ by simp);have s:h.length<b.length:=by rw[e];simp
  have g:=i.few;have r:d[a.1]?=some (d.getD a.1 ⟨#[]⟩):=by rw[au,aj lt];rfl
  have k:rP (cp d) (eS d) (.inr (d.getD a.1 ⟨#[]⟩))=some (.int (a.1:Nat)):=Y4 m r (by rw[aq,Up lt];rfl);refine⟨rfl,_,rfl,?_⟩;rw[k];refine⟨_,_,rfl,k,by rw[ak];exact Y3 (show _<=1000 by exact aL (Y2 s) g) wf,.fz (.str (d.getD a.1 ⟨#[]⟩)),.fz (aa a.2),?_⟩;rw[bf]
  rfl
 .rintro _ ⟨x,y,rfl⟩;exact q
structure Made where
 cls:Addr
 of:bM
abbrev xA:=List (List Made)
abbrev eT(d:Φ)(m:Made):T:=gy m.cls m.of.name m.of.pay (WK d m.of.ways)
structure FG(D:a')(d:Φ)(ds:List Made):Prop where
 few:ds.length<=1000
 cls:∀m∈ds,dO D m.cls
 ways:∀m∈ds,FF d m.of.ways
 nd:(ds.map λm=>m.of.name).Nodup
def _H(d:Φ)(n:Str)(h:n∉d):e7 (cp d) (.inr n)=cp (d++[n])/\d3 (cp d) (d.map λ_=>L2.T.bl true) (.inr n) (.bl true)=(d++[n]).map λ_=>L2.T.bl true:=by
 unfold e7 d3;rw[ES d n h];refine⟨by rw[ZZ wf];simp[cp],?_⟩;rw[ZZ wf];simp
def El(D:a'):ST:=λb q=>∃(d:Φ)(a:List Made),b=[.lst (a.map (eT d)),.dct (cp d) (eS d)]/\d.Nodup/\FG D d a/\q (.l1 (a.map λm=>cz m.of))
def QX(F:Fun K qK qK Ag f G)(T:Txt K mg D)(s:ag P w K mg base 2 kh ig (uX D)):bW P w K mg base ab 3 f G nC (am K (El D)):=by
 refine F.okT Uc (λp _=>bF (kY 2 QB)
  (bF (kY 3 (eG bC))
  (bF (eV (cI wn) (cB (n:=99) 4)
  (bF (cG (Xi 2 (EG (Cm p) (sE (Fm:=bb D) (λC h=>⟨T.cl C h,T.Kd C h⟩) wE) wa))
  (bH eZ)
  bQ)
  (bF (R0 2 (Cm p) mW (sE (Fm:=bb D) (λC h=>⟨T.cl C h,T.Kd C h⟩) wE))
  (bH (uD 3 (dB (bx (sE (Fm:=bb D) (λC h=>⟨T.cl C h,T.Kd C h⟩) wE) (bx (sE (Fm:=bb D) (λC h=>⟨T.cl C h,T.acI C h⟩) wE) (bx (bI s (bx wE (bx we bC))) bC)))))))))
  (bH (mG 3))))) ?_
 rintro _ R ⟨d,j,rfl,i,hd,q⟩;refine gG (eT d) j (λb o=>∃x,o=[.fz (.lst (j.map (eT d))),.fz (.dct (cp d) (eS d)),.d1 (cp (b.map λm=>m.of.name)) ((b.map λm=>m.of.name).map λ_=>.bl true),.l1 (b.map λm=>cz m.of),x]) ⟨_,rfl⟩ ?_ ?_
 .rintro b a v _ e ⟨x,rfl⟩;have k:a.of.name∉b.map λm=>m.of.name:=by
   have i:=hd.nd;rw[e,bf,map_cons]at i;exact λz=>(List.nodup_append.mp i).2.2 _ z _ (aO ..) rfl
  have r:b.length<j.length:=by rw[e];simp
  have g:=hd.few;have l:a∈j:=e ▸ by simp
  have c:=hd.cls a l;refine⟨c.fam,_,rfl,_,rfl,?_⟩;rw[XH _ _ _ k];refine⟨c.fam,_,rfl,_,rfl,by rw[ak,ak];exact Y3 (show _<=1000 by exact aL (Y2 r) g) wf,c.fam,_,rfl,c.fam,_,rfl,_,_,_,d,a.of.ways,rfl,c,i,hd.ways a l,by rw[ak];exact Y3 (show _<=1000 by exact aL (Y2 r) g) wf,.fz (eT d a),?_⟩;obtain⟨u,t⟩:=_H (b.map λm=>m.of.name) a.of.name k;rw[show(b++[a]).map (λm=>m.of.name)=b.map (λm=>m.of.name)++[a.of.name]from bf,<- u,<- t,bf]
  rfl
 .rintro _ ⟨x,rfl⟩;exact q
structure DF(D:a')(d:Φ)(t:xA):Prop where
 len:t.length=d.length
 few:d.length<=1000
 wd:∀n∈d,Wd n
 nd:d.Nodup
 mds:∀ds∈t,FG D d ds
abbrev Du(d:Φ)(t:xA):xj:=(d.zip t).map λp=>gL (p.1,p.2.map (eT d))
abbrev fi(t:xA):zD:=t.map λds=>ds.map λm=>m.of
def Zu(D:a'):SI:=λC b a e R=>∃(s:Rat)(d:Φ)(t:xA),C=D.Hall/\b=[]/\a=[]/\e=[aa s,.lst (Du d t)]/\0<=s/\s<1/\Bq s/\DF D d t/\R j8 [aa s,.dct (cp d) (eS d),.lst ((fi t).map λc=>.lst (c.map cz))]
def T4(F:Fun K Gw Eh tO f G)(T:Txt K mg D)(y:ag P w K mg base 3 nu jR yL)(v:ag P w K mg base 2 pB lW Ck)(u:ag P w K mg base 3 qK nC (El D)):bW P w K mg base ab 4 f G mY (di K (Zu D)):=by
 refine F.okI Ru (λC U Q X R L=>by obtain⟨n,p,_,_,_,_,e,_⟩:=L;exact e ▸ rfl) wf λY A k s H E V S=>?_;refine⟨_,(bF (jy (bI y (bx we bC)))
  (bF (tU (Fm:=bb D) 0 (λC h=>⟨T.cl C h,T.zX C h⟩) we)
  (bF (tU (Fm:=bb D) 0 (λC h=>⟨T.cl C h,T.DG C h⟩) (bI v (bx wa bC)))
  (bH (tU (Fm:=bb D) 0 (λC h=>⟨T.cl C h,T.Lj C h⟩) (c7 (bG tO) zM zM ["room"] (cI wa) (d_ (i:=0)) cC (bI u (bx (bJ wn bA) (bx (TB (Fm:=bb D) 1 (λC h=>⟨T.cl C h,T.DG C h⟩)) bC))))))))),?_⟩
 rintro a W C _ _ _ R ⟨s,d,t,rfl,rfl,rfl,rfl,I,B,z,h,q⟩;have j:(d.zip t).map (·.1)=d:=List.map_fst_zip (by have:=h.len;exact WG (Eq.symm this));have r:(d.zip t).map (·.2)=t:=List.map_snd_zip (by have:=h.len;exact WG this);have o:(d.zip t).length=d.length:=by rw[VZ,h.len,UV]
 have g:=su D;have b:=h.few;refine⟨_,rfl,I,B,z,⟨g,by decide⟩,(d.zip t).map λp=>(p.1,p.2.map (eT d)),by rw[WJ];rfl,by rw[ak,o];exact b,λp l=>?_,?_,⟨g,by decide⟩,?_⟩
 .obtain⟨x,J,rfl⟩:=YV.mp l;exact h.wd x.1 (j ▸ YV.mpr ⟨x,J,rfl⟩)
 .rw[WJ];exact j.symm ▸ h.nd
 .rw[show((d.zip t).map λp=>(p.1,p.2.map (eT d))).map (·.1)=d from List.map_map.trans j];refine⟨by rw[ak,o];exact aL b wf,comp_map (λp=>gL (p.1,p.2.map (eT d))) (λp=>.lst (p.2.map λm=>cz m.of)) (d.zip t) (λp l N M O=>?_) ⟨⟨g,by decide⟩,_,_,rfl,?_⟩⟩
  .exact⟨g,_,rfl,d,p.2,rfl,h.nd,h.mds p.2 (r ▸ YV.mpr ⟨p,l,rfl⟩),O⟩
  .have:(d.zip t).map (λp=>L2.T.lst (p.2.map λm=>cz m.of))=(fi t).map λc=>.lst (c.map cz):=by
    rw[show(fi t).map (λc=>L2.T.lst (c.map cz))=t.map λc=>.lst (c.map λm=>cz m.of)from by simp[fi,WJ,Function.comp_def]]
    conv=>rhs;rw[<- r,WJ]
    rfl
   rw[<- this]at q;exact q
structure yc(d:Φ)(l:zD):Prop where
 len:l.length=d.length
 few:d.length<=1000
 fews:∀ds∈l,ds.length<=1000
def kj(D:a'):ST:=λa q=>∃(s:Rat)(d:Φ)(l:zD),a=[bu D s d l]/\q (.fz (.int (d.length:Nat)))
def Ey(F:Fun K Fo G3 zF f G)(T:Txt K mg D):bW P w K mg base ab 1 f G fD (am K (kj D)):=by
 refine F.okT Sg (λ_ _=>bH (bN (bY Zh T.gk VY (bx (sE (Fm:=bb D) (λC h=>⟨T.cl C h,T.DG C h⟩) wn) bC)))) ?_;rintro _ R ⟨s,d,l,rfl,q⟩;refine⟨su D,_,rfl,?_⟩;rw[<- ak (f:=(Sum.inr:Str->bX))]at q;exact q
def CW(D:a'):ST:=λa q=>∃(s:Rat)(d:Φ)(l:zD)(k:Nat),a=[bu D s d l,.int k]/\k<d.length/\q (.fz .non)
def C_(F:Fun K tH rM nH f G)(T:Txt K mg D)(b:ag P w K mg base 1 gO fL jA)(a:OkI P w K mg base ab 1 D.Hall_size fD (am K (kj D))):bW P w K mg base ab 2 f G fW (am K (CW D)):=by
 refine F.okT Dz (λ_ _=>bH (cG (QW.qt (g8 (cX (cN (bI b (bx we bC)))) (eX (cX (FW CG Cy bA we (u5 wn T.i_ T.nq a (KS:=j8)))))))
  (bH eZ)
  bQ)) ?_
 rintro _ R ⟨s,d,l,k,rfl,c,q⟩;refine⟨_,_,rfl,rfl,⟨rfl,rfl⟩,_,_,_,rfl,?_⟩;show sw (!decide ((k:Int)<(d.length:Nat))) _ _;rw[Zs (show(k:Int)<(d.length:Nat)by lia)];exact q
def rF(D:a'):ST:=λb q=>∃(s:Rat)(d:Φ)(l:zD)(k:Nat)(a:List bM),b=[bu D s d l,.int k]/\yc d l/\l[k]?=some a/\q (.l1 (a.map cz))
def ju{l:List Q}{h:Q->T}{a:Q}(e:l[k]?=some a):ca (l.map h) (k:Nat)=some (h a):=by
 show dj (l.map h) k=_;rw[qz,aq,e];rfl
def Qm(F:Fun K zu yt pA f G)(T:Txt K mg D)(g:OkI P w K mg base ab 2 D.Hall_check_room fW (am K (CW D))):bW P w K mg base ab 3 f G dX (am K (rF D)):=by
 refine F.okT Lx (λ_ _=>bF (jy (Bh wn T.i_ T.Dt g (bx we bC) (KS:=j8)))
  (bH (bN (c7 (bG pA) uH uH ["name","pay","numbered"] (cI (bJ (sE (Fm:=bb D) (λC h=>⟨T.cl C h,T.Lj C h⟩) wn) we)) (fH (n:=3) (bT (d_ (i:=0)) (bT (d_ (i:=1)) (bT (d_ (i:=2)) dN)))) cC (dB (bx wn (bx we (bx (oX R9 T.M9 boot_list (bx wa bC)) bC)))))))) ?_
 rintro _ R ⟨s,d,l,k,a,rfl,h,e,q⟩;have b:k<d.length:=by rw[<- h.len];exact(ao.mp e).1
 refine⟨⟨rfl,rfl⟩,s,d,l,k,rfl,b,su D,_,rfl,.lst (a.map cz),ju (h:=λa=>L2.T.lst (a.map cz)) e,by rw[ak];exact aL (h.fews a (aC e)) wf,comp_map cz cz a (λo _ N M c=>⟨rfl,c⟩) q⟩
open Rw (vr jC jw pN ba iT iM ur oA Big rO lD pI mH pq gD)
abbrev c3:=List Int×Int
abbrev xl:=List c3
abbrev b'(r:c3):T:=.tup [.lst (r.1.map T.int),.int r.2]
def NN:Nat:=10^600
def ot{i:Int}(h:i.natAbs<=NN*NN*NN):Bd i:=Y3 h (by decide +kernel)
def da{i:Int}(h:i.natAbs<=NN):Bd i:=ot (aL h (by decide +kernel))
def lq{i:Int}(h:i.natAbs<=NN*NN):Bd i:=ot (aL h (by decide +kernel))
def lu{a:Int}(d:a.natAbs<=m)(c:b.natAbs<=n):(a*b).natAbs<=m*n:=by rw[VW];exact W1 d c
def uU{a:Int}(h:0<b):fdiv a b=a/b:=lL _ (XY h)
def Ie:ST:=λa q=>∃r:c3,a=[.lst (r.1.map T.int),.int r.2]/\0<r.2/\Bd r.2/\r.1.length<=1000/\q (.fz (b' (jC r)))
def abC(F:Fun K uV uV Gf f G)(l:ag P w K mg base 1 jB cT oV):bW P w K mg base ab 2 f G rA (am K Ie):=by
 refine F.okT aaJ (λ_ _=>bF (bO 2 we)
  (bF (eV (cI wn) (cB (n:=99) 3)
  (bH (bO 2 (bI l (bx wP (bx wa bC))))))
  (bH (bN (dB (bx (c7 (bG Gf) Wq ["tops","bottom","common","?top"] ["top"] (cI wn) (d_ (i:=0)) cC (bL o7 wn wP)) (bx (bL o7 we wa) bC))))))) ?_
 rintro _ R ⟨⟨tops,b⟩,rfl,c,h,j,q⟩;have c:0<b:=c;have h:Bd b:=h;refine gG L2.T.int tops (λg o=>∃x,o=[.fz (.lst (tops.map L2.T.int)),.fz (.int b),.fz (.int (ba g b)),x]) ⟨_,rfl⟩ ?_ ?_
 .rintro g a p _ e ⟨x,rfl⟩;refine⟨_,_,rfl,.fz (.int a),?_⟩;rw[show ba (g++[a]) b=((Int.gcd a (ba g b):Nat):Int)from by unfold ba;rw[List.foldl_append];rfl]
  rfl
 .rintro _ ⟨x,rfl⟩;have d:=iT (ts:=tops) c;have g1:Bd (ba tops b):=Pn (by have:=ur (ts:=tops) c;omega) h;refine⟨by rw[ak];exact aL j wf,comp_map L2.T.int (λt=>.int (t/ba tops b)) tops (λt m N M k=>⟨⟨by exact WP d,g1⟩,?_⟩) ⟨⟨by exact WP d,g1⟩,?_⟩⟩
  .rw[uU d];exact k
  .rw[uU d];have:(jC (tops,b)).1.map L2.T.int=tops.map λt=>.int (t/ba tops b):=WJ;rw[<- this];exact q
structure Fn(c:Rat):Prop where
 n:c.num.natAbs<=NN
 d:c.den<=NN
abbrev pr(c:Rat):Int×Int:=(c.num,c.den)
def Gi:ST:=λa q=>∃(r:c3)(c:Rat),a=[b' r,aa c]/\Big NN r/\r.1.length<=1000/\Fn c/\q (.fz (b' (jC (jw r (pr c)))))
def S7(F:Fun K qI qI tW f G)(T:Txt K mg D)(h:ag P w K mg base 2 uV rA Ie):bW P w K mg base ab 3 f G nR (am K Gi):=by
 refine F.okT Tz (λ_ _=>bH (bN (bI h (bx (c7 (bG tW) Am Am ["top"] (cI (bJ wn bA)) (d_ (i:=0)) cC (bL cQ wn (bJ wa bA))) (bx (bL cQ (bJ wn bA) (bJ we bA)) bC))))) ?_;rintro _ R ⟨r,c,rfl,a,b,e,q⟩;have:=c.den_pos;have g:((c.den:Nat):Int).natAbs<=NN:=e.d;refine⟨by rw[ak];exact aL b wf,comp_map L2.T.int (λt=>.int (t*c.num)) r.1 (λt j N M k=>⟨⟨da (a.top t j),da e.n⟩,k⟩) ⟨⟨da a.bot,da g⟩,jw r (pr c),?_,XZ a.pos (show(0:Int)<(c.den:Nat)by lia),lq (lu a.bot g),by show(r.1.map _).length<=1000;rw[ak];exact b,q⟩⟩;show _=[L2.T.lst ((r.1.map λt=>t*c.num).map L2.T.int),.int (r.2*c.den)];rw[WJ]
 rfl
def Jd:ST:=λa q=>∃(r o:c3)(c:Rat),a=[b' r,b' o,aa c]/\Big NN r/\Big NN o/\r.1.length<=1000/\o.1.length=r.1.length/\Fn c/\q (.fz (b' (jC (pN r o (pr c)))))
def WW(F:Fun K tV tV wJ f G)(T:Txt K mg D)(z:ag P w K mg base 1 jB cT oV)(v:ag P w K mg base 2 uV rA Ie):bW P w K mg base ab 3 f G pX (am K Jd):=by
 refine F.okT I9 (λ_ _=>bF (bO 3 (bL cQ (bJ we bA) (bJ wa bA)))
  (bF (bO 4 (bI z (bx (bJ wn bA) (bx wP bC))))
  (bF (bO 5 (bL o7 wP wE))
  (bF (bO 6 (bL cQ (bL o7 (bJ wn bA) wE) (bJ wa bA)))
  (bF (qP (bG wJ) Dr Dr ["one","another"] (zJ T.Jg (bx (bJ wn bA) (bx (bJ we bA) bC))) (fH (n:=2) (bT (d_ (i:=0)) (bT (d_ (i:=1)) dN))) cC (bL dg (bL cQ wn (qv 7)) (bL cQ we (qv 8))) (mD (i:=7) I9.nd rfl (Or.inl rfl)))
  (bH (bN (bI v (bx (qv 7) (bx (bL cQ (bJ wn bA) (qv 5)) bC)))))))))) ?_
 rintro _ R ⟨r,o,c,rfl,b,g,x,k,h,q⟩;have:=c.den_pos;have u:((c.den:Nat):Int).natAbs<=NN:=h.d;have m:0<o.2*(c.den:Int):=XZ g.pos wp;have A:=lu g.bot u;have e:=pH (a:=r.2) (WP m);have gr:((Int.gcd r.2 (o.2*(c.den:Int)):Nat):Int)≠0:=by exact WP e
 have B:Int.gcd r.2 (o.2*(c.den:Int))<=r.2.natAbs:=UX (by have:=b.pos;omega) (Int.gcd_dvd_natAbs_left ..);have s:Bd ((Int.gcd r.2 (o.2*(c.den:Int)):Nat):Int):=da (by have:=b.bot;lia);have j:(o.2*(c.den:Int)/((Int.gcd r.2 (o.2*(c.den:Int)):Nat):Int)).natAbs<=NN*NN:=aL (Int.natAbs_ediv_le_natAbs _ _) A;have t:(r.2/((Int.gcd r.2 (o.2*(c.den:Int)):Nat):Int)).natAbs<=NN:=aL (Int.natAbs_ediv_le_natAbs _ _) b.bot;refine⟨⟨da g.bot,da u⟩,_,_,rfl,⟨gr,s⟩,⟨gr,s⟩,⟨by rw[uU e];exact da t,da h.n⟩,?_⟩;rw[uU e,uU e];refine⟨by unfold xZ;rw[ak,VZ,ak,ak,k,UV];exact aL x wf,?_⟩;rw[zip_map];refine comp_map (λp=>.tup [.int p.1,.int p.2]) (λp=>.int (p.1*(o.2*(c.den:Int)/((Int.gcd r.2 (o.2*(c.den:Int)):Nat):Int))+p.2*(r.2/((Int.gcd r.2 (o.2*(c.den:Int)):Nat):Int)*c.num))) (r.1.zip o.1) (λp l N M y=>⟨rfl,⟨da (b.top _ (VX l).1),lq j⟩,⟨da (g.top _ (VX l).2),lq (lu t h.n)⟩,y⟩) ⟨⟨da b.bot,lq j⟩,pN r o (pr c),?_,?_,ot ?_,?_,q⟩
 .show _=[L2.T.lst ((zipWith _ r.1 o.1).map L2.T.int),_];rw[map_zipWith,List.zip,map_zipWith]
  rfl
 .exact XZ b.pos (l4 m (XY e) (QR ..))
 .rw[Nat.mul_assoc];exact lu b.bot j
 .show(zipWith _ r.1 o.1).length<=1000;rwa[JP,k,UV]
open Rw (vr jC jw pN ba iT iM ur oA Big rO lD pI mH pq gD)
inductive ii where
 |swap (i j:Nat)|times (i:Nat) (c:Rat)|add (i j:Nat) (c:Rat)
def gK:ii->T
 |.swap i j=>.tup [.str "swap",.int i,.int j]
 |.times i c=>.tup [.str "times",.int i,aa c]
 |.add i j c=>.tup [.str "add",.int i,.int j,aa c]
def ac(u:xl)(i:Nat):c3:=u.getD i ([],1)
def yS(u:xl):ii->xl
 |.swap i j=>(u.set i (ac u j)).set j (ac u i)
 |.times i c=>u.set i (jC (jw (ac u i) (pr c)))
 |.add i j c=>u.set i (jC (pN (ac u i) (ac u j) (pr c)))
def CD(n:Nat):ii->Prop
 |.swap i j=>i<n/\j<n
 |.times i c=>i<n/\Fn c
 |.add i j c=>i<n/\j<n/\Fn c
def Bl{u:xl}(h:i<u.length):u[i]?=some (ac u i):=by
 unfold ac;rw[au,aj h];rfl
def fj{u:xl}(h:i<u.length):ac u i∈u:=aC (Bl h)
def DY(h:i<n):c6 n ((i:Nat):Int)=some i:=by
 unfold c6;rw[ZY (WZ _),ZY wp];rfl
def v7{u:xl}(h:i<u.length):ca (u.map b') ((i:Nat):Int)=some (b' (ac u i)):=ju (Bl h)
structure Rws(u:xl)(O:Nat):Prop where
 big:∀r∈u,Big NN r
 wds:∀r∈u,r.1.length=O
 few:u.length<=100
 wde:O<=1000
def GD:SO:=λc b R=>∃(u:xl)(a:ii)(O:Nat),c=[u.map b']/\b=[gK a]/\Rws u O/\CD u.length a/\R [(yS u a).map b']
def Sd(F:Fun K qN qN zm f G)(T:Txt K mg D)(I:ag P w K mg base 3 qI nR Gi)(C:ag P w K mg base 3 tV pX Jd):bW P w K mg base ab 4 f G oG (eg K GD):=by
 refine F.okO Uq (λB r R ⟨u,l,O,z,v,_⟩=>by rw[z,v];rfl) wf λM A e s H E o J=>?_;refine⟨_,(bF (bO 2 (uG 0 (bJ we bA)))
  (bH (cG (cj (yA o.units) (bJ we bA) xP)
  (bF (Hy 0 (uG 0 (bJ we bA)) (bJ we bA))
  (bH (Hy 0 wa (bJ we bA))))
  (bH (cG (cj (yA o.units) (bJ we bA) xP)
  (bH (Hy 0 (bI I (bx wa (bx (bJ we bA) bC))) (bJ we bA)))
  (bH (Hy 0 (bI C (bx wa (bx (uG 0 (bJ we bA)) (bx (bJ we bA) bC)))) (bJ we bA)))))))),?_⟩
 rintro p B r R t ⟨u,l,O,rfl,rfl,h,b,q⟩;obtain⟨a,rfl⟩ : ∃a,p=[a]:=by
  match p,t with
  |[a],_=>exact⟨a,rfl⟩
 have g:∀(L:List L2.T)(x y:OT),R [L]->∃k,(∀j,slot [.la a L,x,y] j=slot (zipWith OT.la [a] k) j\/[a].length<=j)/\k.length=[a].length/\R k:=λL x y q=>⟨[L],λj=>by
  cases j with
  |zero=>exact .inl rfl
  |succ j=>exact .inr wr,rfl,q⟩
 have d:(u.map b').length=u.length:=ak _
 match l,b,q with
 |.swap i j,b,q =>
  refine⟨_,v7 b.1,_,v7 b.2,i,DY (d ▸ b.1),j,DY (by rw[VT,d];exact b.2),g _ _ _ ?_⟩;rw[yS,map_set,map_set]at q;exact q
 |.times i c,b,q =>
  have m:=fj b.1;refine⟨_,v7 b.1,ac u i,c,rfl,h.big _ m,by rw[h.wds _ m];exact h.wde,b.2,i,DY (d ▸ b.1),g _ _ _ ?_⟩;rw[yS,map_set]at q;exact q
 |.add i j c,b,q =>
  have m:=fj b.1;have n:=fj b.2.1;refine⟨_,v7 b.1,_,v7 b.2.1,ac u i,ac u j,c,rfl,h.big _ m,h.big _ n,by rw[h.wds _ m];exact h.wde,by rw[h.wds _ m,h.wds _ n],b.2.2,i,DY (d ▸ b.1),g _ _ _ ?_⟩;rw[yS,map_set]at q;exact q
open Rw (vr jC jw pN ba iT iM ur oA Big rO lD pI mH pq gD)
def xM:ST:=λa q=>∃(r:c3)(k:Nat),a=[b' r,.int k]/\k<r.1.length/\Big NN r/\q (.fz (aa (vr r k)))
def SJ(F:Fun K nQ nQ zY f G)(Z:ag P w K mg base 2 pU nW uW):bW P w K mg base ab 3 f G kJ (am K xM):=by
 refine F.okT TY (λ_ _=>bH (bN (bI Z (bx (bJ (bJ wn bA) we) (bx (bJ wn bA) bC))))) ?_;rintro _ R ⟨r,k,rfl,b,a,q⟩;have c:=a.pos;refine⟨_,ju (aj b),_,_,rfl,by exact WP c,da a.bot,λx y l=>?_⟩;rw[jY l (WP c),UQ];unfold vr at q;rw[au,aj b]at q;exact q
def xU:ST:=λa q=>∃(u:xl)(O:Nat),a=[.lst (u.map b')]/\Rws u O/\q (.l1 (u.map λr=>.lst ((range O).map λk=>aa (vr r k))))
def Ji(F:Fun K mJ mJ jO f G)(Z:ag P w K mg base 2 pU nW uW):bW P w K mg base ab 3 f G jd (am K xU):=by
 refine F.okT JM (λ_ _=>bH (bN (WE (bG jO) jJ jJ "row" (cI wn) C5 cC (Zi (bG jO) ("row"::jJ) ("row"::jJ) ["top"] (cI (bJ wn bA)) (d_ (i:=0)) cC (bI Z (bx wn (bx (bJ we bA) bC))))))) ?_;rintro _ R ⟨u,O,rfl,h,q⟩;refine⟨by rw[ak];exact aL h.few wf,comp_map b' (λr=>.lst ((range O).map λk=>aa (vr r k))) u (λr a N M g=>⟨by rw[ak,h.wds r a];exact aL h.wde wf,?_⟩) q⟩;have b:=h.big r a;have d:=b.pos;refine comp_map T.int (λt=>aa ((t:Rat)/(r.2:Rat))) r.1 (λt j N M g=>⟨_,_,rfl,by exact WP d,da b.bot,λx y l=>by rwa[jY l (WP d),UQ]⟩) ?_;have e:(r.1.map λt:Int=>aa ((t:Rat)/(r.2:Rat)))=(range O).map λk=>aa (vr r k):=by
  refine TK (by rw[ak,ak,WH,h.wds r a]) λn c m=>?_;rw[ak]at c;rw[UR,UR,Q2];unfold vr;rw[au,aj c]
  rfl
 rwa[e]
def DZ{lo:Nat}{t:T}(e:(rng (lo:Nat) n)[i]?=some t):i<n/\t=.int ((lo+i:Nat):Int):=by
 unfold rng at e;rw[aq]at e;by_cases a:i<n
 .rw[Up a]at e;cases e;exact⟨a,rfl⟩
 .rw[aM (by simpa using a)]at e;cases e
def EM{r:c3}(h:0<r.2)(a:k<r.1.length):vr r k=0↔r.1[k]=0:=by
 have e:vr r k=(r.1[k] : Rat)/(r.2:Rat):=by unfold vr;rw[au,aj a];rfl
 have n:(r.2:Rat)≠0:=λz=>by have:=Rat.intCast_eq_zero_iff.mp z;lia
 rw[e];constructor
 .intro z;have:(r.1[k] : Rat)=0:=by grind
  exact Rat.intCast_eq_zero_iff.mp this
 .intro z;rw[z];grind
def CN:ST:=λa R=>∃(u:xl)(O p k:Nat),a=[.lst (u.map b'),.int p,.int k]/\Rws u O/\p<=u.length/\k<O/\(∀q,p<=q->q<u.length->vr (ac u q) k≠0->R (.fz (.int q)))/\((∀i,p<=i->i<u.length->vr (ac u i) k=0)->R (.fz .non))
def NK(F:Fun K pF pF vN f G)(T:Txt K mg D):bW P w K mg base ab 1 f G lY (am K CN):=by
 refine F.okT Oo (λv _=>bF (eV (B_ T.gJ (bx we (bx (bY eF T.gk VY (bx wn bC)) bC))) (cB (n:=99) 3)
  (bH (cG (cj (qG v.units) (bJ (bJ (bJ wn wP) bA) wa) bA)
  (bH (bN wP))
  bQ)))
  (bH (bN iB))) ?_
 rintro _ R ⟨u,O,p,k,rfl,h,C,E,q,s⟩;have a:∀i,i<u.length->k<(ac u i).1.length:=λi l=>by rwa[h.wds _ (fj l)]
 have A:=h.few;have r:(u.map b').length=u.length:=ak _;refine⟨⟨by lia,by lia,by lia,by lia⟩,FQ (λi o=>∃x,o=[.fz (.lst (u.map b')),.fz (.int p),.fz (.int k),x]/\∀j,p<=j->j<p+i->vr (ac u j) k=0) _ 0 ⟨_,rfl,λj _ _=>by lia⟩ (λi t o e z=>?_) λo z=>?_⟩
 .obtain⟨l,rfl⟩:=DZ e;rw[r]at l;have b:p+i<u.length:=by omega
  obtain⟨x,rfl,d⟩:=z;have m:=EM (h.big _ (fj b)).pos (a _ b);refine⟨_,v7 b,_,ju (aj (a _ b)),?_⟩;by_cases c:(ac u (p+i)).1[k]'(a _ b)=0
  .refine dy (by show xr true (decide (_=_))=false;rw[Zs c];rfl) ⟨_,rfl,λj g y=>?_⟩;by_cases B:j=p+i
   .rw[B];exact m.mpr c
   .exact d j g wp
  .exact fe (by show xr true (decide (_=_))=true;rw[Zp c];rfl) (q _ (X9 _ _) b λz=>c (m.mp z))
 .obtain⟨x,rfl,d⟩:=z;refine s λj g y=>d j g ?_;unfold rng;rw[ak,WH,r];lia
def Ma:SO:=λd c R=>∃(u:xl)(b:xj)(a:ii)(O:Nat),d=[u.map b',b]/\c=[gK a]/\Rws u O/\CD u.length a/\b.length<sizeLine/\R [(yS u a).map b',b++[gK a]]
def adO(F:Fun K zL zL Rj f G)(r:dL P w K mg base 4 qN oG (eg K GD)):bW P w K mg base ab 5 f G u_ (eg K Ma):=by
 refine F.okO _6 (λp i R ⟨u,e,c,O,o,n,_⟩=>by rw[o,n];rfl) wf λx A d s H E v t=>?_;refine⟨_,(bF (Oy 0 r (bx wa bC))
  (bH (uD 1 wa))),?_⟩
 rintro g p i R k ⟨u,e,c,O,rfl,rfl,h,l,m,q⟩;obtain⟨a,b,rfl⟩ : ∃a b,g=[a,b]:=by
  match g,k with
  |[a,b],_=>exact⟨a,b,rfl⟩
 refine⟨u,c,O,rfl,rfl,h,l,m,[(yS u c).map b',e++[gK c]],λj=>?_,rfl,q⟩
 match j with
 |0=>exact .inl rfl
 |1=>exact .inl rfl
 |j+2=>exact .inr wr
open Rw (vr jC jw pN ba iT iM ur oA Big rO lD pI mH pq gD)
def JW{u:xl}{r:c3}(h:i<u.length)(j:Nat):ac (u.set i r) j=if j=i then r else ac u j:=by
 unfold ac;rw[au,au,List.getElem?_set];by_cases e:i=j
 .subst e;rw[ZY rfl,ZY rfl,ZY h];rfl
 .rw[ZZ e,ZZ (Ne.symm e)]
def Fn.of{a:Int}(d:b≠0)(i:a.natAbs<=NN)(k:b.natAbs<=NN):Fn (divInt a b):=by
 have j:=lR a d;have f:∃x y,mi a b x y:=by
  rcases Int.lt_or_lt_of_ne d with z|z
  .exact⟨_,_,yr (c:=-((Int.gcd a b:Nat):Int)) d wp wp (Int.mul_pos_of_neg_of_neg wp z)⟩
  .exact⟨_,_,yr (c:=((Int.gcd a b:Nat):Int)) d wp wp (XZ wp z)⟩
 obtain⟨x,y,l⟩:=f;have e:=jY l d;injection e with e;injection e with g e;injection e with h e;injection g with g;injection h with h;exact⟨by rw[<- g];exact aL l.lx i,by have:=l.ly;lia⟩
def DI{r:c3}(a:k<r.1.length):vr r k=divInt r.1[k] r.2:=by
 unfold vr;rw[au,aj a,UQ];rfl
def Fn.vr{r:c3}{k:Nat}(h:Big NN r)(a:k<r.1.length):Fn (vr r k):=by
 have:=h.pos;rw[DI a];exact Fn.of (WP this) (h.top _ (aU _)) h.bot
def Fn.inv(h:Fn c)(b:c≠0):Fn (1/c):=by
 have a:c.num≠0:=λz=>b (by rw[<- rd c,z];exact QP _);rw[div_def,Rat.one_mul,Rat.inv_def];exact Fn.of a h.d h.n
def Fn.neg(h:Fn c):Fn (0-c):=by
 rw[sub_eq_add_neg,Rat.zero_add];exact⟨by show(-c.num).natAbs<=NN;rw[natAbs_neg];exact h.n,h.d⟩
def Fn.bq(h:Fn c):Bq c:=⟨da h.n,da h.d⟩
def Rws.fn{u:xl}(h:Rws u O)(a:i<u.length)(b:k<O):Fn (Rw.vr (ac u i) k):=Fn.vr (h.big _ (fj a)) (by rwa[h.wds _ (fj a)])
def Rws.of{u b:xl}(h:Rws u O)(d:b.length=u.length)(f:∀i,i<u.length->Big NN (ac b i)/\(ac b i).1.length=O):Rws b O:=by
 have:∀r∈b,Big NN r/\r.1.length=O:=λr a=>by
  obtain⟨i,c,g⟩:=List.getElem_of_mem a;have e:=Bl c;rw[aj c,g]at e;injection e with e;rw[e];exact f i (d ▸ c)
 exact⟨λr a=>(this r a).1,λr a=>(this r a).2,d ▸ h.few,h.wde⟩
def Lf(u:xl)(a:ii):(yS u a).length=u.length:=by cases a<;>simp[yS]
def fu(r:c3)(k:Nat):c3:=if vr r k=1 then r else jC (jw r (pr (1/vr r k)))
def lh(u:xl)(p q k i:Nat):c3:=if i=p then fu (ac u q) k else ac u (Rw.sw p q i)
def eI(u:xl)(p q:Nat):xl:=if q=p then u else yS u (.swap p q)
def _l(u:xl)(p q:Nat):(eI u p q).length=u.length:=by
 unfold eI;split
 .rfl
 .exact Lf _ _
def OR{u:xl}{p q:Nat}(a:p<u.length)(b:q<u.length)(i:Nat):ac (eI u p q) i=ac u (Rw.sw p q i):=by
 unfold eI Rw.sw;by_cases e:q=p
 .subst e;rw[ZY rfl];by_cases c:i=q
  .rw[ZY c,c]
  .rw[ZZ c,ZZ c]
 .rw[ZZ e];show ac ((u.set p (ac u q)).set q (ac u p)) i=_;rw[JW (by rwa[VT]),JW a];by_cases c:i=q
  .subst c;rw[ZY rfl,ZZ e,ZY rfl]
  .rw[ZZ c];by_cases d:i=p
   .rw[ZY d,ZY d]
   .rw[ZZ d,ZZ d,ZZ c]
def Fj:SO:=λe d R=>∃(u:xl)(a:xj)(O p q k:Nat),e=[u.map b',a]/\d=[.int p,.int q,.int k]/\Rws u O/\p<u.length/\q<u.length/\k<O/\vr (ac u q) k≠0/\a.length+2<sizeLine /\
 ∀b c,b.length=u.length->(∀i,i<u.length->ac b i=lh u p q k i)->c.length<=a.length+2->R [b.map b',c]
def Sl{x y:RS}{E:DT}(J:xy->Prop)(k:∀a,J a->y E a)(h:(∀a,J a->y E a)->oO x y E o):oO x y E o:=h k
def r_(v u:Rat):(decide (v.num=u.num)&&decide (((v.den:Nat):Int)=u.den))=decide (v=u):=by
 rw[<- Bool.decide_and];refine decide_eq_decide.mpr ⟨λ⟨a,b⟩=>Rat.ext a wp,λz=>by rw[z];exact⟨rfl,rfl⟩⟩
def g9{R:wb->Prop}{a b:Addr}(L M:xj)(q:R [L,M]):∃c,(∀j,slot (.la a L::.la b M::o) j=slot (zipWith OT.la [a,b] c) j\/[a,b].length<=j)/\c.length=[a,b].length/\R c:=⟨[L,M],λj=>by
 match j with
 |0=>exact .inl rfl
 |1=>exact .inl rfl
 |j+2=>exact .inr wr,rfl,q⟩
def D4{d:Type}{c:List Q}{x y:d}(e : [x,y].length=c.length):∃a b,c=[a,b]:=by
 match c,e with
 |[a,b],_=>exact⟨a,b,rfl⟩
def Qz(F:Fun K qR qR yj f G)(T:Txt K mg D)(I:dL P w K mg base 5 zL u_ (eg K Ma))(Y:ag P w K mg base 3 nQ kJ xM)(W:ag P w K mg base 3 Bw w6 J8):bW P w K mg base ab 6 f G nF (eg K Fj):=by
 refine F.okO Qy (λaw U R ⟨u,d,O,p,q,k,e1,e2,_⟩=>by rw[e1,e2];rfl) wf λae A z s H E r nd=>?_;refine⟨_,(bF (cG (cj (qG r.units) wP wa)
  (bH (Mz 0 1 I r.md (by rfl) (bx (dB (bx xP (bx wa (bx wP bC)))) bC)))
  bQ)
  (bF (bO 5 (bI Y (bx (uG 0 wa) (bx wE bC))))
  (bH (cG (cj (qG r.units) (qv 5) (lF T.Gm T.xq))
  (bH (Mz 0 1 I r.md (by rfl) (bx (dB (bx xP (bx wa (bx (bI W (bx (lF T.Gm T.xq) (bx (qv 5) bC))) bC)))) bC)))
  bQ)))),?_⟩
 rintro as aw U R V ⟨u,d,O,p,q,k,rfl,rfl,h,N,C,Z,Q,hl,L⟩;obtain⟨a,b,rfl⟩:=D4 V;have J:=_l u p q;have l:=OR N C;have B:Rw.sw p q p=q:=ZY rfl;have j:∀i,i<u.length->Rw.sw p q i<u.length:=λi m=>by
  unfold Rw.sw;split
  .exact C
  .split<;>omega
 have t:Rws (eI u p q) O:=h.of J λi m=>by rw[l];exact⟨h.big _ (fj (j i m)),h.wds _ (fj (j i m))⟩
 refine Sl (λo=>∃y,o=[.la a ((eI u p q).map b'),.la b y,.fz (.int p),.fz (.int q),.fz (.int k),.und]/\y.length<=d.length+1) ?_ λS=>?_
 .rintro _ ⟨y,rfl,M⟩;have g:p<(eI u p q).length:=by lia
  have X:k<(ac (eI u p q) p).1.length:=by rwa[t.wds _ (fj g)]
  have x:=t.fn g Z;refine⟨_,v7 g,_,k,rfl,X,t.big _ (fj g),?_⟩;have v:vr (ac (eI u p q) p) k=vr (ac u q) k:=by rw[l,B]
  rw[v];rw[v]at x;by_cases e:vr (ac u q) k=1
  .refine dy (by show xr true (_&&_)=false;rw[show(decide ((vr (ac u q) k).num=1)&&decide (((vr (ac u q) k).den:Int)=1))=_ from r_ _ 1,Zs e];rfl) (g9 _ _ (L _ _ J (λi m=>?_) (aL M (Xs _))));rw[l];unfold lh fu;split
   .rename_i c;rw[c,B]
   .rfl
  .refine fe (by show xr true (_&&_)=true;rw[show(decide ((vr (ac u q) k).num=1)&&decide (((vr (ac u q) k).den:Int)=1))=_ from r_ _ 1,Zp e];rfl) ⟨1,_,rfl,Q,hh,x.bq,by show Bd (1*_);rw[JJ];exact da x.n,eI u p q,y,.times p (1/vr (ac u q) k),O,rfl,rfl,t,⟨g,x.inv Q⟩,by lia,g9 _ _ (L _ _ (by rwa[Lf]) (λi m=>?_) (by rw[aA];show _+1<=_;exact succ_le_succ M))⟩;show ac ((eI u p q).set p _) i=_;rw[JW g,l,l,B];unfold lh fu;split
   .rfl
   .rfl
 .by_cases e:q=p
  .refine dy (by show xr true (decide (_=_))=false;rw[Zs wp];rfl) (S [.la a (u.map b'),.la b d,.fz (.int p),.fz (.int q),.fz (.int k),.und] ⟨d,?_,by exact Xs _⟩);unfold eI;rw[ZY e]
  .refine fe (by show xr true (decide (_=_))=true;rw[Zp wp];rfl) ⟨u,d,.swap p q,O,rfl,rfl,h,⟨N,C⟩,by lia,S [.la a ((yS u (.swap p q)).map b'),.la b (d++[gK (.swap p q)]),.fz (.int p),.fz (.int q),.fz (.int k),.und] ⟨d++[gK (.swap p q)],?_,by simp⟩⟩;unfold eI;rw[ZZ e]
open Rw (vr jC jw pN ba iT iM ur oA Big rO lD pI mH pq gD)
def bE(u:xl)(p k i:Nat):c3:=if i=p\/vr (ac u i) k=0 then ac u i else jC (pN (ac u i) (ac u p) (pr (0-vr (ac u i) k)))
def xQ:SO:=λe d R=>∃(u:xl)(a:xj)(O p k:Nat),e=[u.map b',a]/\d=[.int p,.int k]/\Rws u O/\p<u.length/\k<O/\a.length+u.length<sizeLine/\(∀i,i<u.length->Big NN (bE u p k i)) /\
 ∀b c,b.length=u.length->(∀i,i<u.length->ac b i=bE u p k i)->c.length<=a.length+u.length->R [b.map b',c]
def TM{u:xl}{p:Nat}(h:Rws u O)(b:p<u.length)(a:i<u.length):(bE u p k i).1.length=O:=by
 unfold bE;split
 .exact h.wds _ (fj a)
 .rw[mH];show(zipWith _ (ac u i).1 (ac u p).1).length=O;rw[JP,h.wds _ (fj a),h.wds _ (fj b),UV]
def Jz(F:Fun K mC mC rR f G)(T:Txt K mg D)(X:dL P w K mg base 5 zL u_ (eg K Ma))(mU:ag P w K mg base 3 nQ kJ xM)(iJ:ag P w K mg base 3 pR m9 vA):bW P w K mg base ab 6 f G je (eg K xQ):=by
 refine F.okO Jx (λaw Y R ⟨u,C,O,p,k,e1,e2,_⟩=>by rw[e1,e2];rfl) wf λae A J s H E L nd=>?_;refine⟨_,(bH (eV (fQ T.gJ (bx (Lw 0 (bY eF T.gk VY (bx wn bC))) bC)) (cB (n:=99) 4)
  (bH (cG (QW.qt (Tw (cj (qG L.units) wE wa) (RB (cj (qG L.units) (bJ (bJ (uG 0 wE) bA) wP) bA))))
  (bF (bO 5 (bI iJ (bx (lF T.iY T.gA) (bx (bI mU (bx (uG 0 wE) (bx wP bC))) bC))))
  (bH (Mz 0 1 X L.md (by rfl) (bx (dB (bx xP (bx wE (bx wa (bx (qv 5) bC))))) bC))))
  bQ)))),?_⟩
 rintro as aw Y R Z ⟨u,C,O,p,k,rfl,rfl,h,W,hk,hl,hb,ok⟩;obtain⟨a,b,rfl⟩:=D4 Z;have V:(u.map b').length=u.length:=ak _;have few:=h.few;refine⟨trivial,⟨by lia,by lia⟩,yF (λn o=>∃g m x y,o=[.la a (g.map b'),.la b m,.fz (.int p),.fz (.int k),x,y]/\g.length=u.length/\(∀i,i<u.length->ac g i=if i<n then bE u p k i else ac u i)/\m.length<=C.length+n) ⟨u,C,_,_,rfl,rfl,λi _=>by rw[ZZ (WU _)],aG _⟩ ?_ ?_⟩
 .rintro n _ M ⟨g,m,x,y,rfl,v,r,U⟩;have M:n<u.length:=by rw[V]at M;lia
  have I:ac g n=ac u n:=by rw[r n M,ZZ (Wp _)]
  have rp:ac g p=ac u p:=by
   rw[r p W];split
   .unfold bE;rw[ZY (.inl rfl)]
   .rfl
  have B:Rws g O:=h.of v λi j=>by
   rw[r i j];split
   .exact⟨hb i j,TM h W j⟩
   .exact⟨h.big _ (fj j),h.wds _ (fj j)⟩
  have q:bE u p k n=ac u n->∀i,i<u.length->ac g i=if i<n+1 then bE u p k i else ac u i:=λe i j=>by
   rw[r i j];by_cases c:i=n
   .subst c;rw[ZZ (Wp _),ZY (X2 _),e]
   .by_cases d:i<n
    .rw[ZY d,ZY (WS _ d)]
    .rw[ZZ d,ZZ wp]
  by_cases e:n=p
  .exact dy (by show xr true (decide (_=_))=false;rw[Zs wp];rfl) ⟨g,m,_,_,rfl,v,q (ZY (.inl e)),by lia⟩
  .have t:n<g.length:=by lia
   have l:k<(ac g n).1.length:=by rwa[B.wds _ (fj t)]
   have S:=EM (B.big _ (fj t)).pos l;refine fe (by show xr true (decide (_=_))=true;rw[Zp wp];rfl) ⟨_,v7 t,_,ju (aj l),?_⟩;by_cases c:(ac g n).1[k]'l=0
   .exact dy (by show xr true (decide (_=_))=false;rw[Zs c];rfl) ⟨g,m,_,_,rfl,v,q (ZY (.inr (by rw[<- I];exact S.mpr c))),by lia⟩
   .have N:=B.fn t hk;refine fe (by show xr true (decide (_=_))=true;rw[Zp c];rfl) ⟨_,v7 t,_,k,rfl,l,B.big _ (fj t),0,_,rfl,lg,N.bq,by show Bd (1*_);rw[JJ];exact da N.d,g,m,.add n p (0-vr (ac g n) k),O,rfl,rfl,B,⟨t,by lia,N.neg⟩,by lia,yS g (.add n p (0-vr (ac g n) k)),m++[gK (.add n p (0-vr (ac g n) k))],_,_,rfl,by rw[Lf];exact v,λi j=>?_,by rw[aA];show _+1<=_;lia⟩;show ac (g.set n _) i=_;rw[JW t,I,rp];by_cases d:i=n
    .rw[ZY d,d,ZY (X2 _)];unfold bE;rw[ZZ λz=>z.elim e λz=>c (S.mp (by rw[I];exact z))]
    .rw[ZZ d,r i j];by_cases Q:i<n
     .rw[ZY Q,ZY (WS _ Q)]
     .rw[ZZ Q,ZZ wp]
 .rintro _ ⟨g,m,x,y,rfl,v,r,U⟩;rw[V]at r U;exact g9 _ _ (ok g m v (λi j=>by rw[r i j,ZY wp]) wp)
open Rw (vr jC jw pN ba iT iM ur oA Big rO lD pI mH pq gD sg iz gw bZ iK jt)
def DV(c:Rat):(((pr c).1:Int):Rat)/(((pr c).2:Int):Rat)=c:=by rw[<- UQ];exact rd c
def Rp(c:Rat):0<(pr c).2:=by have:=c.den_pos;show(0:Int)<(c.den:Nat);lia
def E7{r:c3}(h:0<r.2):0<(jC r).2:=l4 h (XY (iT h)) iM.1
def NX{r:c3}(h:0<r.2)(b:vr r k≠0):0<(fu r k).2/\(fu r k).1.length=r.1.length/\(ba (fu r k).1 (fu r k).2=1\/fu r k=r)/\∀j,vr (fu r k) j*vr r k=vr r j:=by
 unfold fu;by_cases e:vr r k=1
 .rw[ZY e];exact⟨h,rfl,.inr rfl,λj=>by rw[e,Rat.mul_one]⟩
 .rw[ZZ e];have a:0<(jw r (pr (1/vr r k))).2:=XZ h (Rp _);refine⟨E7 a,by rw[mH];unfold jw;rw[ak],.inl (oA a),λj=>?_⟩;rw[rO a,lD h (Rp _),DV]
  grind
def SC{u:xl}{p:Nat}(a:0<(ac u i).2)(c:0<(ac u p).2)(f:(ac u i).1.length=(ac u p).1.length):0<(bE u p k i).2/\(ba (bE u p k i).1 (bE u p k i).2=1\/bE u p k i=ac u i)/\∀j,vr (bE u p k i) j=if i=p then vr (ac u p) j else vr (ac u i) j-vr (ac u i) k*vr (ac u p) j:=by
 unfold bE;by_cases e:i=p
 .rw[ZY (.inl e)];exact⟨a,.inr rfl,λj=>by rw[ZY e,e]⟩
 .by_cases z:vr (ac u i) k=0
  .rw[ZY (.inr z)];exact⟨a,.inr rfl,λj=>by rw[ZZ e,z];grind⟩
  .rw[ZZ λy=>y.elim e z];have b:0<(pN (ac u i) (ac u p) (pr (0-vr (ac u i) k))).2:=by
    have d:=XZ c (Rp (0-vr (ac u i) k));exact XZ a (l4 d (XY (pH (WP d))) (QR _ _))
   refine⟨E7 b,.inl (oA b),λj=>?_⟩;rw[rO b,pI a c (Rp _) f,DV,ZZ e]
   grind
structure FnB(M:Nat)(c:Rat):Prop where
 n:c.num.natAbs<=M
 d:c.den<=M
def FnB.vr{M:Nat}{r:c3}{k:Nat}(h:Big M r)(f:k<r.1.length):FnB M (Rw.vr r k):=by
 have a:=h.pos;have g:=lR r.1[k] (WP a);have l:=yr (t:=r.1[k]) (c:=((Int.gcd r.1[k] r.2:Nat):Int)) (WP a) wp wp (XZ wp a);have e:=jY l (WP a);rw[DI f];injection e with e;injection e with b e;injection e with d e;injection b with b;injection d with d;exact⟨by rw[<- b];exact aL l.lx (h.top _ (aU _)),by have:=l.ly;have:=h.bot;omega⟩
structure B0(E:xl)(O N:Nat):Prop where
 big:∀i,i<E.length->Big N (ac E i)/\(ac E i).1.length=O
 one:1<=N
 mb:(2*E.length*N)^E.length<=NN
 nn:N<=NN
abbrev aT(E:xl)(i j:Nat):Int:=(ac E i).1.getD j 0
abbrev aB(E:xl)(i:Nat):Int:=(ac E i).2
structure Gs(E:xl)(O N c:Nat)(u:xl):Prop where
 len:u.length=E.length
 row:∀i,i<E.length->0<(ac u i).2/\(ac u i).1.length=O/\(ba (ac u i).1 (ac u i).2=1\/Big N (ac u i))
 st:∃pv s,gD (aT E) (aB E) E.length O (λi j=>vr (ac u i) j) c pv s
 unit:∀i l,i<E.length->l<c->vr (ac u i) l=if i=l then 1 else 0
 ker:∀x:Nat->Rat,(∀i,i<E.length->sg (λj=>vr (ac u i) j*x j) O=0)->∀i,i<E.length->sg (λj=>vr (ac E i) j*x j) O=0
section
variable{E u:xl}{O N c q:Nat}
def B0.zero(h:B0 E O N):Gs E O N 0 E:=⟨rfl,λi a=>⟨(h.big i a).1.pos,(h.big i a).2,.inr (h.big i a).1⟩,⟨λ_=>0,id,gD.zero λi a=>(h.big i a).1.pos⟩,λ_ _ _ z=>absurd z (WU _),λ_ z=>z⟩
def Hn{N:Nat}(a:1<=m)(b:1<=N):N<=(2*m*N)^m:=by
  have x:N<=2*m*N:=l5 _ wp;have y:1<=2*m*N:=W1 (show 1<=2*m by lia) b
  calc N<=(2*m*N)^1:=by rw[Nat.pow_one];exact x
    _<=_:=XG y a
def B0.sbigM(h:B0 E O N){R:Nat->Nat->Rat}{p:Nat}(c:∃pv s,gD (aT E) (aB E) E.length O R p pv s)(a:i<E.length){r:c3}(n:0<r.2)(m:r.1.length=O)(g:ba r.1 r.2=1\/Big N r)(e:∀j,j<O->vr r j=R i j):Big ((2*E.length*N)^E.length) r:=by
 rcases g with g|g
 .obtain⟨pv,s,c⟩:=c;obtain⟨v,u,l,k,f,o⟩:=c.bound h.one (λi j a d=>by
   have b:=h.big i a;show((ac E i).1.getD j 0).natAbs<=N;rw[au,aj (by rwa[b.2])];exact b.1.top _ (aU _)) (λi a=>⟨(h.big i a).1.pos,(h.big i a).1.bot⟩) a
  exact pq n g m l k f λj d=>by rw[e j d];exact o j d
 .exact g.le (Hn wp h.one)
def B0.sbig(h:B0 E O N){R:Nat->Nat->Rat}{p:Nat}(a:∃pv s,gD (aT E) (aB E) E.length O R p pv s)(d:i<E.length){r:c3}(c:0<r.2)(b:r.1.length=O)(g:ba r.1 r.2=1\/Big N r)(e:∀j,j<O->vr r j=R i j):Big NN r:=(h.sbigM a d c b g e).le h.mb
def Gs.bigM(g:Gs E O N c u)(h:B0 E O N)(a:i<E.length):Big ((2*E.length*N)^E.length) (ac u i):=h.sbigM g.st a (g.row i a).1 (g.row i a).2.1 (g.row i a).2.2 λ_ _=>rfl
def Gs.big(g:Gs E O N c u)(h:B0 E O N)(a:i<E.length):Big NN (ac u i):=h.sbig g.st a (g.row i a).1 (g.row i a).2.1 (g.row i a).2.2 λ_ _=>rfl
def ZQ{p q:Nat}(b:p<m)(a:q<m)(c:i<m):Rw.sw p q i<m:=by
 unfold Rw.sw;split
 .exact a
 .split<;>omega
def DB(p q i:Nat):Rw.sw p q (Rw.sw p q i)=i:=by
 unfold Rw.sw;by_cases a:i=p
 .subst a;rw[ZY rfl];by_cases b:q=i
  .rw[ZY b,b]
  .rw[ZZ b,ZY rfl]
 .by_cases b:i=q
  .subst b;rw[ZZ a,ZY rfl,ZY rfl]
  .rw[ZZ a,ZZ b,ZZ a,ZZ b]
def Gs.next(g:Gs E O N c u)(h:B0 E O N)(b:c<E.length)(U:c<O)(S:c<=q)(f:q<E.length)(T:vr (ac u q) c≠0){rs2:xl}(M:∀i,i<E.length->ac rs2 i=lh u c q c i) :
  (∀i,i<E.length->Big NN (ac rs2 i)/\(ac rs2 i).1.length=O)/\(∀i,i<E.length->Big NN (bE rs2 c c i))/\∀v:xl,v.length=E.length->(∀i,i<E.length->ac v i=bE rs2 c c i)->Gs E O N (c+1) v:=by
 have A:Rw.sw c q c=q:=ZY rfl;obtain⟨Y,X,W,V⟩:=NX (g.row q f).1 T;have L:ac rs2 c=fu (ac u q) c:=by rw[M c b];exact ZY rfl
 have C:∀i,i<E.length->i≠c->ac rs2 i=ac u (Rw.sw c q i):=λi a m=>by rw[M i a];exact ZZ m
 have d:∀i,i<E.length->0<(ac rs2 i).2/\(ac rs2 i).1.length=O/\(ba (ac rs2 i).1 (ac rs2 i).2=1\/Big N (ac rs2 i)):=λi a=>by
  by_cases e:i=c
  .rw[e,L];refine⟨Y,by rw[X];exact(g.row q f).2.1,W.elim .inl λz=>?_⟩;rw[z];exact(g.row q f).2.2
  .rw[C i a e];exact g.row _ (ZQ b f a)
 have n:=λi(a:i<E.length)=>SC (u:=rs2) (p:=c) (k:=c) (i:=i) (d i a).1 (d c b).1 (by rw[(d i a).2.1,(d c b).2.1]);have r:∀i,i<E.length->(bE rs2 c c i).1.length=O:=λi a=>by
  unfold bE;split
  .exact(d i a).2.1
  .rw[mH];show(zipWith _ (ac rs2 i).1 (ac rs2 c).1).length=O;rw[JP,(d i a).2.1,(d c b).2.1,UV]
 have t:∀i,i<E.length->ba (bE rs2 c c i).1 (bE rs2 c c i).2=1\/Big N (bE rs2 c c i):=λi a=>(n i a).2.1.elim .inl λz=>by rw[z];exact(d i a).2.2
 have w:∀j,vr (bE rs2 c c c) j*vr (ac u q) c=vr (ac u q) j:=λj=>by
  rw[(n c b).2.2 j,ZY rfl,L];exact V j
 have F:∀i,i<E.length->i≠c->∀j,vr (bE rs2 c c i) j=vr (ac u (Rw.sw c q i)) j-vr (ac u (Rw.sw c q i)) c*vr (bE rs2 c c c) j:=λi a m j=>by
  rw[(n i a).2.2 j,(n c b).2.2 j,ZZ m,ZY rfl,C i a m]
 have D:∃pv s,gD (aT E) (aB E) E.length O (λi j=>vr (bE rs2 c c i) j) (c+1) pv s:=by
  obtain⟨pv,s,st⟩:=g.st;have P:=st.swap S f (R':=λi j=>vr (ac u (Rw.sw c q i)) j) λi j _ _=>rfl;exact⟨_,_,P.pivot b (λi a=>(h.big i a).1.pos) U (by show vr (ac u (Rw.sw c q c)) c≠0;rwa[A]) (R':=λi j=>vr (bE rs2 c c i) j) (λj _=>by show vr (bE rs2 c c c) j*vr (ac u (Rw.sw c q c)) c=vr (ac u (Rw.sw c q c)) j;rw[A];exact w j) λi j a m _=>F i a m j⟩
 have Q:∀i,i<E.length->Big NN (bE rs2 c c i):=λi a=>h.sbig D a (n i a).1 (r i a) (t i a) λ_ _=>rfl;refine⟨λi a=>⟨?_,(d i a).2.1⟩,Q,λv R o=>⟨R,λi a=>by rw[o i a];exact⟨(n i a).1,r i a,t i a⟩,?_,λi l a K=>?_,λx J=>g.ker x λi a=>?_⟩⟩
 .by_cases e:i=c
  .rw[e];refine h.sbig D b (d c b).1 (d c b).2.1 (d c b).2.2 λj _=>?_;show _=vr (bE rs2 c c c) j;rw[(n c b).2.2 j,ZY rfl]
  .rw[C i a e];exact g.big h (ZQ b f a)
 .obtain⟨pv,s,st⟩:=D;exact⟨pv,s,st.congr λi j a=>by rw[o i a]⟩
 .rw[o i a];have H:l<c->vr (bE rs2 c c c) l=0:=λK=>by
   have:=w l;rw[g.unit q l f K,ZZ wp]at this
   grind
  have G:vr (bE rs2 c c c) c=1:=by
   have:=w c
   grind
  by_cases e:i=c
  .subst e;by_cases z:l<i
   .rw[H z,ZZ (UK z)]
   .rw[show l=i by lia,G,ZY rfl]
  .rw[F i a e l];by_cases z:l<c
   .rw[H z,g.unit _ l (ZQ b f a) z];have:(Rw.sw c q i=l)=(i=l):=by
     unfold Rw.sw;rw[ZZ e];split
     .exact propext ⟨λ_=>by lia,λ_=>by lia⟩
     .rfl
    simp only[this]
    grind
   .rw[show l=c by lia,G,ZZ e]
    grind
 .have y:=J c b;rw[o c b]at y;by_cases e:i=q
  .rw[e,bZ (g:=λj=>vr (ac u q) c*(vr (bE rs2 c c c) j*x j)) λj _=>by rw[<- w j];grind,gw,y]
   grind
  .have B:=ZQ b f a;have m:Rw.sw c q i≠c:=λz=>by
    have:=DB c q i;rw[z,A]at this;exact e this.symm
   have I:=J _ B;rw[o _ B]at I;rw[bZ (g:=λj=>vr (bE rs2 c c (Rw.sw c q i)) j*x j+vr (ac u i) c*(vr (bE rs2 c c c) j*x j)) λj _=>by rw[F _ B m,DB];grind,iz,gw,y,I]
   grind
def Gs.found(g:Gs E O N c u)(m:c<E.length)(h:c<O)(d:∀x:Nat->Rat,(∀j,E.length<=j->x j=0)->(∀i,i<E.length->sg (λj=>vr (ac E i) j*x j) O=0)->∀j,j<E.length->x j=0):¬∀i,c<=i->i<E.length->vr (ac u i) c=0:=λk=>by
 have:=d (λj=>if j<c then -(vr (ac u j) c)else if j=c then 1 else 0) (λj l=>by rw[ZZ wp,ZZ wp]) (g.ker _ λi f=>?_) c m
 .rw[ZZ (Wp _),ZY rfl]at this;exact absurd this wf
 .rw[bZ (g:=λj=>(if j=i then 1 else 0)*(if j<c then -(vr (ac u j) c)else 0)+(if j=c then 1 else 0)*vr (ac u i) c) λj l=>?_,iz,jt (v:=λj=>if j<c then -(vr (ac u j) c)else 0),jt (v:=λ_=>vr (ac u i) c),ZY h]
  .by_cases e:i<c
   .rw[ZY (UU e h),ZY e]
    grind
   .rw[k i (VS e) f];rw[ZZ e]
    grind
  .by_cases a:j<c
   .rw[ZY a,ZY a,g.unit i j f a,ZZ (show j≠c by exact aQ a)];by_cases b:i=j
    .rw[ZY b,ZY b.symm];grind
    .rw[ZZ b,ZZ (Ne.symm b)];grind
   .rw[ZZ a,ZZ a];by_cases b:j=c
    .rw[ZY b,b];grind
    .rw[ZZ b];grind
def Gs.answer(g:Gs E (E.length+1) N E.length u)(b:i<E.length):sg (λj=>vr (ac E i) j*vr (ac u j) E.length) E.length=vr (ac E i) E.length:=by
 have:=g.ker (λj=>if j<E.length then vr (ac u j) E.length else -1) (λi b=>?_) i b
 .show _=_;rw[show sg (λj=>vr (ac E i) j*(if j<E.length then vr (ac u j) E.length else -1)) (E.length+1)=sg (λj=>vr (ac E i) j*(if j<E.length then vr (ac u j) E.length else -1)) E.length+vr (ac E i) E.length*(if E.length<E.length then vr (ac u E.length) E.length else -1)from rfl,ZZ (Wp _),bZ (g:=λj=>vr (ac E i) j*vr (ac u j) E.length) λj a=>by rw[ZY a]]at this
  grind
 .rw[show sg (λj=>vr (ac u i) j*(if j<E.length then vr (ac u j) E.length else -1)) (E.length+1)=sg (λj=>vr (ac u i) j*(if j<E.length then vr (ac u j) E.length else -1)) E.length+vr (ac u i) E.length*(if E.length<E.length then vr (ac u E.length) E.length else -1)from rfl,ZZ (Wp _),bZ (g:=λj=>(if j=i then 1 else 0)*vr (ac u j) E.length) λj a=>by rw[ZY a,g.unit i j b a];simp only[eq_comm],jt (v:=λj=>vr (ac u j) E.length),ZY b]
  grind
end
open Rw (vr jC jw pN ba iT iM ur oA Big rO lD pI mH pq gD sg iz gw bZ iK jt)
abbrev kE(r:xz):c3:=(tops (b_ 1 r) r,((b_ 1 r:Nat):Int))
abbrev MJ(r:xz):T:=.lst (r.map aa)
def ZN(r:xz):(kE r).1.length=r.length:=ak _
def Kq(r:xz)(j:Nat):vr (kE r) j=r.getD j 0:=by
 unfold vr;have c:=eE r VU;show(((tops (b_ 1 r) r).getD j 0:Int):Rat)/(((b_ 1 r:Nat):Int):Rat)=_;unfold tops;rw[au,au,aq];by_cases h:j<r.length
 .rw[aj h];show((r[j].num*((b_ 1 r/r[j].den:Nat):Int):Int):Rat)/_=r[j];obtain⟨k,a⟩:=(jE r (n:=1)).2 r[j] (aU h);have hd:=r[j].den_pos;rw[show b_ 1 r/r[j].den=k by rw[a];exact Nat.mul_div_cancel_left _ hd];have b:k≠0:=λz=>by rw[z]at a;lia
  rw[<- UQ,a,Ts,Rat.divInt_mul_right wp];exact rd _
 .rw[aM (Nat.not_lt.mp h)];show((0:Int):Rat)/_=0
  grind
structure Sys(I:wv)(N:Nat):Prop where
 wid:∀r∈I,r.length=I.length+1
 few:I.length<=100
 lev:∀r∈I,Big N (kE r)
 num:∀r∈I,∀c∈r,Bd c.num
 one:1<=N
 mb:(2*I.length*N)^I.length<=NN
 nn:N<=NN
 inj:∀x:Nat->Rat,(∀j,I.length<=j->x j=0)->(∀r∈I,sg (λj=>r.getD j 0*x j) (I.length+1)=0)->∀j,j<I.length->x j=0
def RK(h:i<I.length):ac (I.map kE) i=kE I[i]:=by
 have:=Bl (u:=I.map kE) (i:=i) (by rwa[ak]);rw[aq,aj h]at this;injection this with this;exact this.symm
def Sys.b0(h:Sys I N):B0 (I.map kE) (I.length+1) N:=⟨λi a=>by
 rw[ak]at a;rw[RK a];exact⟨h.lev _ (aU a),by rw[ZN];exact h.wid _ (aU a)⟩,h.one,by rw[ak];exact h.mb,h.nn⟩
def Rws.mk'{u:xl}(c:∀i,i<u.length->Big NN (ac u i)/\(ac u i).1.length=O)(f:u.length<=100)(d:O<=1000):Rws u O:=by
 have:∀r∈u,Big NN r/\r.1.length=O:=λr a=>by
  obtain⟨i,b,g⟩:=List.getElem_of_mem a;have e:=Bl b;rw[aj b,g]at e;injection e with e;rw[e];exact c i b
 exact⟨λr a=>(this r a).1,λr a=>(this r a).2,f,d⟩
def Sys.rws{c:Nat}{u:xl}(h:Sys I N)(g:Gs (I.map kE) (I.length+1) N c u):Rws u (I.length+1):=by
 have l:=g.len;have few:=h.few;rw[ak]at l;refine Rws.mk' (λi a=>?_) (aL (WG l) few) wp;have b:i<(I.map kE).length:=by rw[g.len]at a;exact a
 exact⟨g.big h.b0 b,(g.row i b).2.1⟩
def Pf(a:i<I.length)(x:Nat->Rat):sg (λj=>vr (ac (I.map kE) i) j*x j) n=sg (λj=>I[i].getD j 0*x j) n:=bZ λj _=>by rw[RK a,Kq]
def Sys.inj'(h:Sys I N):∀x:Nat->Rat,(∀j,(I.map kE).length<=j->x j=0)->(∀i,i<(I.map kE).length->sg (λj=>vr (ac (I.map kE) i) j*x j) (I.length+1)=0)->∀j,j<(I.map kE).length->x j=0:=by
 rw[ak];intro x d c;refine h.inj x d λr b=>?_;obtain⟨i,a,rfl⟩:=List.getElem_of_mem b;rw[<- Pf a];exact c i a
def Np(m:Nat)(y:Nat->Rat):xj:=(range m).map λi=>.lst ((range (m+1)).map λj=>aa (if j<m then if i=j then 1 else 0 else y i))
def Sc{u:xl}(h:Sys I N)(g:Gs (I.map kE) (I.length+1) N I.length u):(u.map λr=>T.lst ((range (I.length+1)).map λk=>aa (vr r k)))=Np I.length λi=>vr (ac u i) I.length:=by
 have l:=g.len;rw[ak]at l;unfold Np;refine TK (by rw[ak,ak,WH,l]) λi a d=>?_;rw[ak]at a;rw[UR,UR,Q2];have e:=Bl a;rw[aj a]at e;injection e with e;rw[e]
 congr 1
 refine Tk λj b=>?_;have b:=List.mem_range.mp b;by_cases c:j<I.length
 .rw[ZY c,g.unit i j (by rw[ak];exact aR a (WG l)) c]
 .rw[ZZ c,show j=I.length by lia]
def OH{u:xl}(g:Gs (I.map kE) (I.length+1) N I.length u):∀r∈I,sg (λj=>r.getD j 0*vr (ac u j) I.length) I.length=r.getD I.length 0:=λr a=>by
 obtain⟨i,b,rfl⟩:=List.getElem_of_mem a;have l:(I.map kE).length=I.length:=ak _;have:=Gs.answer (E:=I.map kE) (N:=N) (u:=u) (by rwa[l]) (i:=i) (by rwa[l]);rw[l,RK b,Kq]at this;rw[<- this];exact bZ λj _=>by rw[Kq]
def Mx:ST:=λa R=>∃(I:wv)(N:Nat),a=[.lst (I.map MJ),.int I.length]/\Sys I N/\∀(b:xj)(y:Nat->Rat),(∀r∈I,sg (λj=>r.getD j 0*y j) I.length=r.getD I.length 0)->(∀i,i<I.length->FnB ((2*I.length*N)^I.length) (y i))->R (.fz (.tup [.lst b,.lst (Np I.length y)]))
def Xn(F:Fun K vG vG Bk f G)(T:Txt K mg D)(gH:ag P w K mg base 2 p7 nZ vq)(O:ag P w K mg base 1 pF lY CN)(Aw:dL P w K mg base 6 qR nF (eg K Fj))(Q:dL P w K mg base 6 mC je (eg K xQ))(U:ag P w K mg base 3 mJ jd xU):bW P w K mg base ab 7 f G sJ (am K Mx):=by
 refine F.okT Lb (λj _=>bF (N0 (bG Bk) Ij Ij ["row"] (cI wn) (d_ (i:=0)) cC (bI gH (bx wn bC)) (mD (i:=2) Lb.nd rfl (Or.inl rfl)))
  (bF (kY 3 (eG bC))
  (bF (bO 4 bA)
  (bF (eV (fQ T.gJ (bx we bC)) (cB (n:=99) 5)
  (bF (bO 6 (Lw 2 (bI O (bx wa (bx wE (bx (qv 5) bC))))))
  (bH (cG (cj Rx (qv 6) iB)
  (bF (Mz 2 3 Aw j.md (by rfl) (bx wE (bx (qv 6) (bx (qv 5) bC))))
  (bF (Mz 2 3 Q j.md (by rfl) (bx wE (bx (qv 5) bC)))
  (bH (PQ 4 PU bA))))
  bQ))))
  (bH (Ul 3 (Ul 2 (bN (dB (bx wP (bx (bI U (bx wa bC)) bC))))))))))) ?_
 rintro _ R ⟨I,N,rfl,h,V⟩;have Z:(I.map MJ).length=I.length:=ak _;have ll:(I.map kE).length=I.length:=ak _;have A:=h.few;have B:=h.b0;have e0:(I.map λr=>b' (kE r))=(I.map kE).map b':=by rw[WJ];rfl
 refine⟨by rw[Z];exact aL A wf,comp_map MJ (λr=>b' (kE r)) I (λr j N' M hN=>⟨r,rfl,by rw[h.wid r j];lia,h.num r j,da (aL (h.lev r j).bot h.nn),hN⟩) ?_⟩;rw[e0];refine⟨⟨by lia,by lia⟩,yF (λc o=>∃u e x y,o=[.fz (.lst (I.map MJ)),.fz (.int I.length),.l1 (u.map b'),.l1 e,.fz (.int (c:Nat)),x,y]/\Gs (I.map kE) (I.length+1) N c u/\e.length<=102*c) ⟨_,[],_,_,rfl,B.zero,aG _⟩ ?_ ?_⟩
 .rintro c _ k ⟨u,e,x,y,rfl,g,S⟩;have k:c<I.length:=by lia
  have J:c<(I.map kE).length:=by lia
  have l:=g.len;have p:=h.rws g;have big:(20000:Nat)<sizeLine:=by decide
  refine⟨u,_,c,c,rfl,p,by lia,by exact WS _ k,λq H v E=>⟨trivial,u,e,_,c,q,c,rfl,rfl,p,by exact Y3 H v,v,by exact WS _ k,E,by lia,λd t l2 e2 s2=>?_⟩,λz=>(g.found J (WS _ k) h.inj' λi a b=>z i a wp).elim⟩;obtain⟨Y,X,W⟩:=g.next B J (WS _ k) H (aR v (WG l)) E (rs2:=d) λi m=>e2 i wp;exact⟨d,t,_,c,c,rfl,rfl,Rws.mk' (λi m=>Y i wp) wp wp,by lia,by exact WS _ k,by lia,λi m=>X i wp,λC s l3 e3 s3=>⟨C,s,.fz (.int c),.fz (.int q),rfl,W C wp λi m=>e3 i wp,by lia⟩⟩
 .rintro _ ⟨u,e,x,y,rfl,g,S⟩;have g:Gs (I.map kE) (I.length+1) N I.length u:=g;have p:=h.rws g;have l:=g.len;refine⟨u,_,rfl,p,?_⟩;have:=V e _ (OH g) λi m=>by
   have L:i<(I.map kE).length:=by lia
   have b:=g.bigM B L;rw[ll]at b;exact FnB.vr b (by rw[(g.row i L).2.1];exact X2 _)
  rw[<- Sc h g]at this;exact this
open Rw (vr jC jw pN ba iT iM ur oA Big rO lD pI mH pq gD sg iz gw bZ iK jt)
def Je:ST:=λa q=>∃(I:wv)(n:Nat),a=[.lst (I.map MJ)]/\(∀r∈I,r.length=n)/\(I=[]->n=0)/\q (.fz (.int n))
def V3(F:Fun K tY tY DN f G)(T:Txt K mg D):bW P w K mg base ab 1 f G pY (am K Je):=by
 refine F.okT Vq (λb _=>bF (cG (cj (yA b.units) (bY eF T.gk VY (bx wn bC)) bA)
  (bH (bN bA))
  bQ)
  (bH (bN (bY eF T.gk VY (bx (bJ wn bA) bC))))) ?_
 rintro _ R ⟨I,n,rfl,h,a,q⟩
 match I,h,a with
 |[],h,a=>rw[a rfl]at q;exact q
 |r::I,h,a =>
  have e:(r.map aa).length=n:=by rw[ak];exact h r (aO ..)
  rw[<- e]at q;exact⟨_,rfl,q⟩
theorem Vb(i:Nat):∀m,(range m).filter (λj=>decide (j=i))=if i<m then[i]else[]
 |0=>by rw[ZZ (WU _)];rfl
 |m+1=>by
  rw[range_succ,List.filter_append,Vb i m];by_cases e:m=i
  .subst e;rw[ZZ (Wp _),ZY (X2 _)];simp
  .rw[List.filter_cons_of_neg (by simpa using e)];by_cases c:i<m
   .rw[ZY c,ZY (WS _ c)];rfl
   .rw[ZZ c,ZZ wp];rfl
def yJ:ST:=λb q=>∃(I:wv)(a:xz),b=[.lst (I.map MJ),.lst (a.map aa)]/\I.length<=100/\(∀r∈I,r.length<=100)/\q (.l1 ((zipWith (λr c=>r++[c]) I a).map MJ))
def Nh(F:Fun K oH oH o_ f G)(T:Txt K mg D):bW P w K mg base ab 1 f G jL (am K yJ):=by
 refine F.okT Le (λ_ _=>bH (bN (c7 (bG o_) um um ["row","right"] (zJ T.Jg (bx wn (bx we bC))) (fH (n:=2) (bT (d_ (i:=0)) (bT (d_ (i:=1)) dN))) cC (bL dg wn (eG (bx we bC)))))) ?_;rintro _ R ⟨I,d,rfl,j,h,q⟩;have k:(I.zip d).length<=I.length:=by rw[VZ];exact min_le_left ..
 refine⟨by unfold xZ;rw[ak,VZ,ak,ak];exact aL (aL (min_le_left ..) j) wf,?_⟩;rw[zip_map];refine comp_map (λp=>.tup [MJ p.1,aa p.2]) (λp=>MJ (p.1++[p.2])) (I.zip d) (λp e N M g=>⟨rfl,?a,?b⟩) ?c
 case a =>
  have:=h _ (VX e).1;show(p.1.map aa).length+1<=sizeLine;rw[ak];exact aL (show _<=101 by exact succ_le_succ this) wf
 case b =>
  show N (.lst (p.1.map aa++[aa p.2]));rw[show(p.1.map aa++[aa p.2])=(p.1++[p.2]).map aa by rw[bf];rfl];exact g
 case c =>
  rw[map_zipWith]at q;rw[List.zip,map_zipWith];exact q
def GR:ST:=λa q=>∃(m:Nat)(y:Nat->Rat),a=[.lst (Np m y),.int m]/\m<=100/\q (.l1 ((range m).map λi:Nat=>.int i))
def Uo(F:Fun K qM qM tX f G)(T:Txt K mg D):bW P w K mg base ab 1 f G oE (am K GR):=by
 refine F.okT Eb (λg _=>bF (kY 2 (eG bC))
  (bF (eV (cI wn) (cB (n:=99) 3)
  (bF (qP (bG tX) yh yh ["column"] (fQ T.gJ (bx we bC)) (d_ (i:=0)) (Zr (cj (qG g.units) (bJ wE wn) (lF T.iY T.gA))) wn (mD (i:=4) Eb.nd rfl (Or.inl rfl)))
  (bH (cG (cj IK (bY eF T.gk VY (bx wE bC)) bA)
  (bH (uD 2 (bJ wE bA)))
  bQ))))
  (bH (mG 2)))) ?_
 rintro _ R ⟨m,y,rfl,h,q⟩;have sz:(1000:Nat)<=sizeLine:=by decide
 refine gG _ (range m) (λb o=>∃x z,o=[.fz (.lst (Np m y)),.fz (.int m),.l1 (b.map λi:Nat=>.int i),x,z]) ⟨_,_,rfl⟩ ?_ ?_
 .rintro b i s _ e ⟨x,z,rfl⟩;have l:i<m:=List.mem_range.mp (e ▸ by simp);have r:b.length<m:=by have:=ZH List.length e;rw[WH,aA,length_cons]at this;lia
  refine⟨⟨by lia,by lia⟩,by rw[rng,ak,WH];exact aL (show _<=1000 by lia) sz,ud (λk:Nat=>.int (0+k)) (λj=>decide (j=i)) (λj=>.int (0+(j:Nat))) (range m) (λj a N M d p=>?_) ?_⟩
  .have a:=List.mem_range.mp a;show hName 0 (L2.T.int (0+((j:Nat):Int))) _ _;rw[show(0:Int)+((j:Nat):Int)=((j:Nat):Int)by lia]at d ⊢;refine⟨_,ju (Up (WS _ a)),?_⟩;by_cases c:j=i
   .refine fe ?_ (d (Zs c));show xr true (_&&_)=true;rw[ZY a,ZY c.symm]
    rfl
   .refine dy ?_ (p (Zp c));show xr true (_&&_)=false;rw[ZY a,ZZ (Ne.symm c)]
    rfl
  .rw[Vb,ZY l];refine⟨_,rfl,by rw[ak];lia,.fz (.lst ((range (m+1)).map λj=>aa (if j<m then if i=j then 1 else 0 else y i))),.fz (.lst [.int (0+(i:Nat))]),?_⟩;rw[bf];show[_,_,OT.l1 (b.map _++[L2.T.int (0+(i:Nat))]),_,OT.fz (.lst [L2.T.int (0+(i:Nat))])]=[_,_,OT.l1 (b.map _++[L2.T.int (i:Nat)]),_,_];rw[show(0:Int)+((i:Nat):Int)=((i:Nat):Int)by exact Int.zero_add _]
 .rintro _ ⟨x,z,rfl⟩;exact q
def K9:ST:=λa q=>∃(m:Nat)(y:Nat->Rat),a=[.lst (Np m y),.lst ((range m).map λi:Nat=>.int i),.int m]/\m<=100/\q (.fz .non)
def Xz(F:Fun K wR wR Ht f G)(T:Txt K mg D):bW P w K mg base ab 1 f G tu (am K K9):=by
 refine F.okT Yi (λa _=>bF (eV (B_ T.gJ (bx (bY eF T.gk VY (bx we bC)) (bx (bY eF T.gk VY (bx wn bC)) bC))) (cB (n:=99) 3)
  (bH (cG (cj (qG a.units) (bJ (bJ wn wP) wa) (lF T.iY T.gA))
  (bH (bN wP))
  bQ)))
  (bH (bN iB))) ?_
 rintro _ R ⟨m,y,rfl,h,q⟩;have c:((range m).map λi:Nat=>L2.T.int i).length=m:=by rw[ak,WH]
 have b:(Np m y).length=m:=by unfold Np;rw[ak,WH]
 refine⟨⟨by lia,by lia,by lia,by lia⟩,FQ (λ_ _=>True) _ 0 trivial (λi t o e z=>?_) λo _=>q⟩;have:=(DZ e).1;lia
def Gz:ST:=λa q=>∃(m:Nat)(y:Nat->Rat),a=[.lst (Np m y),.lst ((range m).map λi:Nat=>.int i),.int m]/\m<=100/\q (.l1 ((range m).map λi=>aa (y i)))
def QD(F:Fun K qQ qQ yM f G)(T:Txt K mg D):bW P w K mg base ab 1 f G nT (am K Gz):=by
 refine F.okT Ua (λ_ _=>bF (kY 3 (bL cQ (eG (bx (lF T.iY T.gA) bC)) wa))
  (bF (eV (Fz T.pP (bx we bC)) (fH (n:=2) (bT (cB (n:=99) 4) (bT (cB (n:=99) 5) dN)))
  (bH (Hy 3 (bJ (bJ wn wE) wa) (qv 5))))
  (bH (mG 3)))) ?_
 rintro _ R ⟨m,y,rfl,h,q⟩;refine⟨⟨by lia,by lia,by show 1*_<=_;exact aL (show _<=100 by lia) wf⟩,λz a=>?_⟩;have a:z=(range m).map λi=>if i<0 then aa (y i)else aa 0:=by
  rw[a,List.flatten_replicate_singleton];refine TK (by rw[aN,ak,WH];rfl) λn l j=>?_;rw[List.getElem_replicate,UR,ZZ (WU _)]
  rfl
 subst a;refine BK (λi:Nat=>.int i) (range m) (λk o=>∃x z,o=[.fz (.lst (Np m y)),.fz (.lst ((range m).map λi:Nat=>.int i)),.fz (.int m),.l1 ((range m).map λi=>if i<k then aa (y i)else aa 0),x,z]) ⟨_,_,rfl⟩ ?_ ?_
 .rintro k i _ e ⟨x,z,rfl⟩;have b:k<m:=by have:=(ao.mp e).1;rwa[WH]at this
  rw[Up b]at e;cases e;refine⟨rfl,_,ju (Up b),_,ju (Up (X2 m)),k,DY (by rwa[ak,WH]),.fz (.int k),.fz (.int k),?_⟩;have:((range m).map λi=>if i<k then aa (y i)else aa 0).set k (aa (if m<m then if k=m then 1 else 0 else y k))=(range m).map λi=>if i<k+1 then aa (y i)else aa 0:=by
   rw[ZZ (Wp _)];refine TK (by rw[VT,ak,ak]) λn l j=>?_;rw[getElem_set,UR,UR,Q2];by_cases c:k=n
   .rw[ZY c,ZY wp,c]
   .rw[ZZ c];by_cases d:n<k
    .rw[ZY d,ZY (WS _ d)]
    .rw[ZZ d,ZZ wp]
  rw[<- this]
  rfl
 .rintro _ ⟨x,z,rfl⟩;have:((range m).map λi=>if i<(range m).length then aa (y i)else aa 0)=(range m).map λi=>aa (y i):=Tk λi g=>by rw[WH,ZY (List.mem_range.mp g)]
  rw[<- this]at q;exact q
open Rw (vr jC jw pN ba iT iM ur oA Big rO lD pI mH pq gD sg iz gw bZ iK jt)
abbrev EY(I:wv)(ay:xz):wv:=zipWith (λr c=>r++[c]) I ay
def Ao:ST:=λb R=>∃(I:wv)(a:xz)(N:Nat),b=[.lst (I.map MJ),.lst (a.map aa)]/\a.length=I.length/\(∀r∈I,r.length=I.length)/\Sys (EY I a) N/\∀y:Nat->Rat,(∀r∈EY I a,sg (λj=>r.getD j 0*y j) I.length=r.getD I.length 0)->(∀i,i<I.length->FnB ((2*I.length*N)^I.length) (y i))->R (.l1 ((range I.length).map λi=>aa (y i)))
def La(F:Fun K oF oF uq f G)(T:Txt K mg D)(s:ag P w K mg base 1 tY pY Je)(l:ag P w K mg base 1 oH jL yJ)(q:ag P w K mg base 7 vG sJ Mx)(k:ag P w K mg base 1 qM oE GR)(p:ag P w K mg base 1 wR tu K9)(j:ag P w K mg base 1 qQ nT Gz):bW P w K mg base ab 8 f G jH (am K Ao):=by
 refine F.okT M8 (λ_ _=>bF (bO 2 (bI s (bx wn bC)))
  (bF (bO 3 (bJ (bI q (bx (bI l (bx wn (bx we bC))) (bx wa bC))) bA))
  (bF (bO 4 (bI k (bx wP (bx wa bC))))
  (bF (cG (QW.qt (g8 (cj Cy (bY eF T.gk VY (bx wE bC)) wa) (eX (cj Rx (bI p (bx wP (bx wE (bx wa bC)))) iB))))
  (bH (bN iB))
  bQ)
  (bH (bN (bI j (bx wP (bx wE (bx wa bC)))))))))) ?_
 rintro _ R ⟨I,c,N,rfl,o,d,h,m⟩;have b:(EY I c).length=I.length:=by rw[JP,o,UV]
 have a:=h.few;rw[b]at a;refine⟨I,I.length,rfl,d,λz=>by rw[z];rfl,I,c,rfl,a,λr n=>by rw[d r n];exact a,EY I c,N,?_,h,λt y g e=>?_⟩
 .rw[b];rfl
 .rw[b]at g e ⊢;have u:((range I.length).map λi:Nat=>L2.T.int i).length=I.length:=by rw[ak,WH]
  exact⟨I.length,y,rfl,a,dy (Zp (by show ¬((((range I.length).map λi:Nat=>L2.T.int i).length:Nat):Int)<_;lia)) ⟨I.length,y,rfl,a,I.length,y,rfl,a,m y g e⟩⟩
def acH(m:Nat):wb:=(range m).map λi=>(range m).map λj=>aa (if j=i then 1 else 0)
def Aj:ST:=λa q=>∃m:Nat,a=[.int m]/\m<=100/\q (.l2 (acH m))
def Ly(F:Fun K nJ nJ lG f G)(T:Txt K mg D):bW P w K mg base ab 1 f G jD (am K Aj):=by
 refine F.okT Mt (λc _=>bH (bN (acN (bG lG) lK lK "row" (fQ T.gJ (bx wn bC)) C5 cC (Zi (bG lG) ("row"::lK) ("row"::lK) ["column"] (fQ T.gJ (bx we bC)) (d_ (i:=0)) cC (Ql (cj (yA c.units) wn we) (lF T.Gm T.xq) (lF T.iY T.gA)))))) ?_;rintro _ R ⟨m,rfl,h,q⟩;have sz:(100:Nat)<=sizeLine:=by decide
 have b:(rng 0 m).length<=sizeLine:=by rw[rng,ak,WH];exact aL h sz
 refine⟨⟨by lia,by lia⟩,b,Vr (λi=>(range m).map λj=>aa (if j=i then 1 else 0)) m (λi g N M a=>⟨⟨by lia,by lia⟩,b,Sw (λj=>aa (if j=i then 1 else 0)) m (λj d N M a=>?_) a⟩) q⟩;by_cases e:j=i
 .rw[ZY e]at a;exact fe (Zs wp) a
 .rw[ZZ e]at a;exact dy (Zp wp) a
def dT:xC->T
 |none=>.non
 |some d=>.int d
def PK:xC->Nat->Bool
 |none,n=>decide (n=0)
 |some d,n=>decide (d<n)
structure cf(l:zD)(C:zS):Prop where
 len:C.length=l.length
 ok:∀(k:Nat)(d:xC)(ds:List bM),C[k]?=some d->l[k]?=some ds->PK d ds.length=true
def E5:ST:=λa q=>∃(d:xC)(n:Nat),a=[dT d,.int n]/\q (.fz (.bl (PK d n)))
def _O(F:Fun K J0 J0 Ys f G)(T:Txt K mg D)(b:ag P w K mg base 1 gO fL jA):bW P w K mg base ab 2 f G FN (am K E5):=by
 refine F.okT _M (λa _=>bF (cG (cj (yA a.units) we bA)
  (bH (bN (xK Ba wn iB)))
  bQ)
  (bH (bN (LR (bI b (bx wn bC)) (M6 (VR CG Cy bA wn we)))))) ?_
 rintro _ R ⟨d,n,rfl,q⟩;by_cases e:n=0
 .subst e;cases d with
  |none=>exact q
  |some d=>exact q
 .refine dy (Zp wp) ?_;cases d with
  |none =>
   rw[show PK none n=false from Zp e]at q;exact⟨_,_,rfl,rfl,q⟩
  |some d =>
   rw[show PK (some d) n=decide ((d:Int)<(n:Int))from decide_eq_decide.mpr (by omega)]at q;exact⟨_,_,rfl,rfl,q⟩
def pJ(D:a'):ST:=λa q=>∃(s:Rat)(d:Φ)(l:zD)(C:zS),a=[bu D s d l,.lst (C.map dT)]/\yc d l/\cf l C/\q (.fz (.bl true))
def Ol(F:Fun K jk jk vR f G)(T:Txt K mg D)(p:ag P w K mg base 2 J0 FN E5)(j:OkI P w K mg base ab 1 D.Hall_size fD (am K (kj D)))(m:OkI P w K mg base ab 3 D.Hall_offers dX (am K (rF D))):bW P w K mg base ab 4 f G gQ (am K (pJ D)):=by
 refine F.okT O5 (λi _=>bF (cG (QW.qt (g8 (cX (cN (vJ .list we T.fJ T.M9 boot_list))) (eX (cj (qG i.units) (bY eF T.gk VY (bx we bC)) (u5 wn T.i_ T.nq j (KS:=j8))))))
  (bH eZ)
  bQ)
  (bF (eV (Fz T.pP (bx we bC)) (fH (n:=2) (bT (cB (n:=99) 2) (bT (cB (n:=99) 3) dN)))
  (bH (cG (cX (cN (bI p (bx wP (bx (bY eF T.gk VY (bx (Bh wn T.i_ T.jQ m (bx wa bC) (KS:=j8)) bC)) bC)))))
  (bH eZ)
  bQ)))
  (bH (bN mW)))) ?_
 rintro _ R ⟨s,d,l,C,rfl,h,b,q⟩;refine⟨⟨rfl,rfl⟩,_,_,_,rfl,dy ?_ ?_⟩
 .show xr true (decide ((((C.map dT).length:Nat):Int)=(d.length:Nat)))=false;rw[ak,b.len,h.len,Zs rfl]
  rfl
 .refine BK dT C (λk o=>∃x y,o=[.fz (bu D s d l),.fz (.lst (C.map dT)),x,y]) ⟨_,_,rfl⟩ ?_ ?_
  .rintro k a _ e ⟨x,y,rfl⟩;have g:k<l.length:=by rw[<- b.len];exact(ao.mp e).1
   have c:=aj g;refine⟨rfl,⟨rfl,rfl⟩,_,_,_,k,_,rfl,h,c,a,(l[k]).length,?_,?_⟩
   .show[dT a,L2.T.int ((((l[k]).map cz).length:Nat):Int)]=_;rw[ak]
   .rw[b.ok k a _ e c];exact⟨_,_,rfl⟩
  .rintro _ ⟨x,y,rfl⟩;exact q
def cb(l:zD)(C:zS):xp:=C.zipIdx.map λp=>p.1.bind λd=>(l.getD p.2 [])[d]?
def f4:xB->T
 |none=>.non
 |some o=>cz o
def xW(D:a'):ST:=λa q=>∃(s:Rat)(d:Φ)(l:zD)(C:zS),a=[bu D s d l,.lst (C.map dT)]/\yc d l/\cf l C/\q (.l1 ((cb l C).map f4))
def JB(F:Fun K mq mq oM f G)(T:Txt K mg D)(v:OkI P w K mg base ab 3 D.Hall_offers dX (am K (rF D))):bW P w K mg base ab 4 f G iZ (am K (xW D)):=by
 refine F.okT JF (λ_ _=>bH (bN (c7 (bG oM) tK tK ["room","door"] (Fz T.pP (bx we bC)) (fH (n:=2) (bT (d_ (i:=0)) (bT (d_ (i:=1)) dN))) cC (Ql (cj Ba we iB) iB (bJ (Bh wa T.i_ T.jQ v (bx wn bC) (KS:=j8)) we))))) ?_;rintro _ R ⟨s,d,l,C,rfl,h,j,q⟩;refine⟨by unfold Dc;rw[ak,length_zipIdx,ak,j.len,h.len];exact aL h.few wf,?_⟩;rw[_V];refine comp_map (λp=>.tup [.int (p.2:Nat),dT p.1]) (λp=>f4 (p.1.bind λc=>(l.getD p.2 [])[c]?)) C.zipIdx (λp r N M g=>⟨rfl,?a⟩) ?b
 case b =>
  unfold cb at q;rw[WJ]at q;exact q
 case a =>
  obtain⟨c,k⟩:=p;have e:=List.mem_zipIdx_iff_getElem?.mp r;have o:k<l.length:=by rw[<- j.len];exact(ao.mp e).1
  have m:=aj o;have u:l.getD k []=l[k]:=by rw[au,m];rfl
  have t:=j.ok k c _ e m;cases c with
  |none=>exact g
  |some c =>
   have ld:c<(l[k]).length:=of_decide_eq_true t;have g:N (f4 ((l.getD k [])[c]?)):=g;rw[u,aj ld]at g;exact⟨⟨rfl,rfl⟩,_,_,_,k,_,rfl,h,m,_,ju (aj ld),g⟩
open Rw (sg)
def yY(f:Nat->Nat->Rat)(m:Nat):wb:=(range m).map λi=>(range m).map λj=>aa (f i j)
def uE:zI->Nat->Rat
 |[],_=>0
 |w::j,a=>(if w.1=a then w.2 else 0)+uE j a
def lB:xB->zI
 |none=>[]
 |some o=>o.ways
structure FA(s:Rat)(m:Nat)(j:zI):Prop where
 nd:(j.map (·.1)).Nodup
 few:j.length<=1000
 lt:∀w∈j,w.1<m
 bq:∀w∈j,Bq w.2/\Bd ((s.den:Int)*w.2.den)/\Bq (s*w.2)
def iw(s:Rat)(a:xp)(i j:Nat):Rat:=(if j=i then 1 else 0)-s*uE (lB (a.getD i none)) j
def Ge:ST:=λb q=>∃(s:Rat)(a:xp),b=[aa s,.lst (a.map f4)]/\a.length<=100/\Bq s/\(∀o∈a,FA s a.length (lB o))/\q (.l2 (yY (iw s a) a.length))
def adK(f:Nat->Nat->Rat)(m:Nat):(yY f m).length=m:=by unfold yY;rw[ak,WH]
def ZC{f:Nat->Nat->Rat}(h:i<m):(yY f m)[i]?=some ((range m).map λj=>aa (f i j)):=by
 unfold yY;rw[aq,Up h];rfl
def vX{f g:Nat->Nat->Rat}(h:∀i j,i<m->j<m->f i j=g i j):yY f m=yY g m:=Tk λi b=>Tk λj a=>by rw[h i j (List.mem_range.mp b) (List.mem_range.mp a)]
def adY{f g:Nat->Nat->Rat}{v:Rat}(h:∀a b,a<m->b<m->g a b=if a=i/\b=k then v else f a b):(yY f m).set i (((range m).map λj=>aa (f i j)).set k (aa v))=yY g m:=by
 unfold yY;refine TK (by rw[VT,ak,ak]) λa q o=>?_;have l:a<m:=by rw[ak,WH]at o;exact o
 rw[getElem_set];by_cases e:i=a
 .rw[ZY e,UR,Q2];refine TK (by rw[VT,ak,ak]) λb p n=>?_;have d:b<m:=by rw[ak,WH]at n;exact n
  rw[getElem_set,UR,UR,Q2,h a b l d];by_cases c:k=b
  .rw[ZY c,ZY ⟨e.symm,c.symm⟩]
  .rw[ZZ c,ZZ λz=>c z.2.symm,e]
 .rw[ZZ e,UR,UR,Q2];refine Tk λb d=>?_;rw[h a b l (List.mem_range.mp d),ZZ λz=>e z.1.symm]
def WN{f:Nat->Nat->Rat}(h:i<m):ca (yY f m) ((i:Nat):Int)=some ((range m).map λj=>aa (f i j)):=by
 show dj (yY f m) i=_;rw[qz,ZC h]
def acs(b:zI)(w:Nat×Rat)(j:Nat):uE (b++[w]) j=uE b j+if w.1=j then w.2 else 0:=by
 induction b with
 |nil=>show(_+(0:Rat))=0+_;grind
 |cons a b c=>show _+uE (b++[w]) j=(_+uE b j)+_;rw[c];grind
def aaA{b:Nat}(h:b∉j.map (·.1)):uE j b=0:=by
 induction j with
 |nil=>rfl
 |cons a d c =>
  show(if a.1=b then a.2 else 0)+uE d b=0;rw[c λz=>h (aJ _ z),ZZ λz=>h (by rw[<- z];exact aO ..)]
  grind
def wM(s:Rat)(a:xp)(n:Nat)(b:zI)(i j:Nat):Rat:=if i<n then iw s a i j else if i=n then(if j=i then 1 else 0)-s*uE b j else if j=i then 1 else 0
def Z'(s:Rat)(a:xp)(n i j:Nat):wM s a n [] i j=if i<n then iw s a i j else if j=i then 1 else 0:=by
 unfold wM;split
 .rfl
 .split
  .show _-s*0=_;grind
  .rfl
def UM{c:xp}(i j:Nat):wM s c n (lB (c.getD n none)) i j=if i<n+1 then iw s c i j else if j=i then 1 else 0:=by
 unfold wM;by_cases a:i<n
 .rw[ZY a,ZY (show i<n+1 by exact WS _ a)]
 .by_cases b:i=n
  .subst b;rw[ZZ a,ZY rfl,ZY (show i<i+1 by exact X2 _)]
   rfl
  .rw[ZZ a,ZZ b,ZZ (show ¬i<n+1 by lia)]
def XD(s:Rat)(b:xp)(n:Nat)(a:zI)(j:Nat):wM s b n a n j=(if j=n then 1 else 0)-s*uE a j:=by unfold wM;rw[ZZ (Wp _),ZY rfl]
def NJ{a:xp}(c b:zI)(j:Nat)(h:i≠n):wM s a n c i j=wM s a n b i j:=by unfold wM;rw[ZZ h,ZZ h]
def T5(F:Fun K qH qH Ak f G)(T:Txt K mg D)(J:ag P w K mg base 1 nJ jD Aj)(O:ag P w K mg base 3 pR m9 vA)(N:ag P w K mg base 3 uT sV Fy):bW P w K mg base ab 4 f G m_ (am K Ge):=by
 refine F.okT Uh (λ_ _=>bF (kY 2 (bI J (bx (bY eF T.gk VY (bx we bC)) bC)))
  (bF (eV (Fz T.pP (bx we bC)) (fH (n:=2) (bT (cB (n:=99) 3) (bT (cB (n:=99) 4) dN)))
  (bH (cG (cj Rx wE iB)
  (bH (eV (cI (bJ wE bA)) (fH (n:=2) (bT (cB (n:=99) 5) (bT (cB (n:=99) 6) dN)))
  (bH (_L 2 (bI O (bx (UF 2 wP (qv 5)) (bx (bI N (bx wn (bx (qv 6) bC))) bC))) wP (qv 5)))))
  bQ)))
  (bH (mG 2)))) ?_
 rintro _ R ⟨s,d,rfl,U,S,Q,q⟩;refine⟨d.length,?_,U,?_⟩
 .show[L2.T.int (((d.map f4).length:Nat):Int)]=_;rw[ak]
 .have lc:∀x:Nat,((d.map f4).length:Nat)=d.length:=λ_=>ak _;refine BK f4 d (λn o=>∃x y z u,o=[.fz (aa s),.fz (.lst (d.map f4)),.l2 (yY (λi j=>if i<n then iw s d i j else if j=i then 1 else 0) d.length),x,y,z,u]) ⟨.und,.und,.und,.und,?_⟩ ?_ ?_
  .show[_,_,OT.l2 (yY (λi j=>if j=i then 1 else 0) d.length),_,_,_,_]=_;rw[vX (f:=λi j=>if j=i then 1 else 0) (g:=λi j=>if i<0 then iw s d i j else if j=i then 1 else 0) λi j _ _=>by rw[ZZ (WU _)]]
  .rintro n p _ e ⟨x,y,z,u,rfl⟩;have H:n<d.length:=(ao.mp e).1;have X:d.getD n none=p:=by rw[au,e];rfl
   have l:=Q p (aC e);rw[show yY (λi j=>if i<n then iw s d i j else if j=i then 1 else 0) d.length=yY (wM s d n []) d.length from vX λi j _ _=>(Z' s d n i j).symm];rw[show yY (λi j=>if i<n+1 then iw s d i j else if j=i then 1 else 0) d.length=yY (wM s d n (lB p)) d.length from vX λi j _ _=>by rw[<- X];exact(UM i j).symm];refine⟨rfl,?_⟩
   match p,l with
   |none,l=>exact⟨_,_,_,_,rfl⟩
   |some o,l =>
    refine gG dz o.ways (λh L=>∃z u,L=[.fz (aa s),.fz (.lst (d.map f4)),.l2 (yY (wM s d n h) d.length),.fz (.int n),.fz (cz o),z,u]) ⟨_,_,rfl⟩ ?_ ?_
    .rintro h ⟨k,c⟩ bs _ I ⟨z,u,rfl⟩;have E:(k,c)∈o.ways:=I ▸ by simp
     have V:=l.lt _ E;obtain⟨Z,Y,r⟩:=l.bq _ E;have M:k∉h.map (·.1):=λz=>by
      have C:=l.nd;rw[show lB (some o)=o.ways from rfl,I,bf]at C;exact(List.nodup_append.mp C).2.2 k z k wr rfl
     have m:wM s d n h n k=if k=n then 1 else 0:=by
      unfold wM;rw[ZZ (Wp _),ZY rfl,aaA M]
      grind
     have B:Bq (wM s d n h n k)/\Bd (((wM s d n h n k).den:Int)*(s*c).den):=by
      rw[m];split
      .exact⟨hh,by show Bd (1*_);rw[JJ];exact r.2⟩
      .exact⟨lg,by show Bd (1*_);rw[JJ];exact r.2⟩
     refine⟨rfl,_,(WN H),_,ju (Up V),s,c,rfl,S,Z,Y,_,_,rfl,B.1,r,B.2,n,_,DY (by rwa[adK]),ZC H,k,DY (by rwa[ak,WH]),.fz (.int k),.fz (aa c),?_⟩;rw[<- adY (f:=wM s d n h) (g:=wM s d n (h++[(k,c)])) (i:=n) (k:=k) (v:=wM s d n h n k-s*c) λa b _ _=>?_]
     .rfl
     .by_cases A:a=n
      .subst A;rw[XD,acs];by_cases t:b=k
       .subst t;rw[ZY (show a=a/\b=b from⟨rfl,rfl⟩),XD,ZY (show(b,c).1=b from rfl)]
        grind
       .rw[ZZ (show ¬(a=a/\b=k)from λz=>t z.2),XD,ZZ (show ¬(k,c).1=b from λz=>t z.symm)]
        grind
      .rw[ZZ (show ¬(a=n/\b=k)from λz=>A z.1)];exact NJ _ _ _ A
    .rintro _ ⟨z,u,rfl⟩;exact⟨_,_,_,_,rfl⟩
  .rintro _ ⟨x,y,z,u,rfl⟩;rw[show yY (iw s d) d.length=yY (λi j=>if i<d.length then iw s d i j else if j=i then 1 else 0) d.length from vX λi j W _=>by rw[ZY W]]at q;exact q
open Rw (sg)
def pL:xB->Rat
 |none=>0
 |some o=>o.pay
def Dy(s:Rat)(a:xp):wv:=(range a.length).map λi=>(range a.length).map λj=>iw s a i j
def HV(s:Rat)(a:xp):(yY (iw s a) a.length).map T.lst=(Dy s a).map MJ:=by
 unfold yY Dy;rw[WJ,WJ];refine Tk λi _=>?_;show T.lst _=T.lst (List.map aa _);rw[WJ]
 rfl
def Sx(s:Rat)(a:xp):(Dy s a).length=a.length:=by unfold Dy;rw[ak,WH]
def SF{a:xp} : ∀r∈Dy s a,r.length=a.length:=λr b=>by
 obtain⟨i,_,rfl⟩:=YV.mp b;rw[ak,WH]
def Br(s:Rat)(a:xp)(y:Nat->Rat):Prop:=∀i,i<a.length->sg (λj=>iw s a i j*y j) a.length=pL (a.getD i none)
structure pV(s:Rat)(cs:xp)(N:Nat):Prop where
 bs:Bq s
 ways:∀o∈cs,FA s cs.length (lB o)
 sys:Sys (EY (Dy s cs) (cs.map pL)) N
def YT{a:xp}(h:i<a.length):(EY (Dy s a) (a.map pL))[i]?=some (((range a.length).map λj=>iw s a i j)++[pL (a.getD i none)]):=by
 unfold EY Dy;rw[List.getElem?_zipWith,aq,Up h,aq,au,aj h]
 rfl
def eh(f:Nat->Rat)(x:Rat):(((range n).map f)++[x]).getD n 0=x:=by
 rw[au,aD (by rw[ak,WH];exact aG _),ak,WH,Nat.sub_self];rfl
def YM{j:Nat}(f:Nat->Rat)(x:Rat)(a:j<n):(((range n).map f)++[x]).getD j 0=f j:=by
 rw[au,aF (by rwa[ak,WH]),aq,Up a];rfl
def _D{a:xp}(h:∀r∈EY (Dy s a) (a.map pL),sg (λj=>r.getD j 0*y j) a.length=r.getD a.length 0):Br s a y:=λi c=>by
 have:=h _ (aC (YT c));rw[eh]at this;rw[<- this];exact Rw.bZ λj b=>ZH (· * y j) (YM _ _ b).symm
def vW(D:a'):ST:=λa R=>∃(s:Rat)(d:Φ)(l:zD)(C:zS)(N:Nat),a=[bu D s d l,.lst (C.map dT)]/\yc d l/\cf l C/\l.length<=100/\pV s (cb l C) N/\∀y:Nat->Rat,Br s (cb l C) y->(∀i,i<l.length->FnB ((2*l.length*N)^l.length) (y i))->R (.l1 ((range l.length).map λi=>aa (y i)))
def Ho{l:zD}(h:cf l C):(cb l C).length=l.length:=by unfold cb;rw[ak,length_zipIdx,h.len]
def Rm(F:Fun K mZ mZ uc f G)(T:Txt K mg D)(q:ag P w K mg base 4 jk gQ (pJ D))(k:ag P w K mg base 4 mq iZ (xW D))(g:ag P w K mg base 4 qH m_ Ge)(j:ag P w K mg base 8 oF jH Ao):bW P w K mg base ab 9 f G kI (am K (vW D)):=by
 refine F.okT FP (λ_ _=>bF (jy (bI q (bx wn (bx we bC))))
  (bF (bO 2 (bI k (bx wn (bx we bC))))
  (bF (qP (bG uc) yZ yZ ["offer"] (cI wa) (d_ (i:=0)) cC (Ql (cj Ba wn iB) (lF T.iY T.gA) (bJ wn bA)) (mD (i:=3) FP.nd rfl (Or.inl rfl)))
  (bH (bN (bI j (bx (bI g (bx (sE (Fm:=bb D) (λa h=>⟨T.cl a h,T.zX a h⟩) wn) (bx wa bC))) (bx wP bC)))))))) ?_
 rintro _ R ⟨s,d,l,C,N,rfl,h,e,b,hw,m⟩;have c:=Ho e;refine⟨_,_,_,_,rfl,h,e,_,_,_,_,rfl,h,e,?_⟩;refine⟨by rw[ak,c];exact aL b wf,comp_map f4 (λo=>aa (pL o)) (cb l C) (λo r N M n=>by cases o<;>exact n) ?_⟩;refine⟨su D,_,rfl,s,cb l C,rfl,by exact aL (WG c) b,hw.bs,hw.ways,Dy s (cb l C),(cb l C).map pL,N,?_,by rw[ak,Sx],by rw[Sx];exact SF,hw.sys,?_⟩
 .show[L2.T.lst ((yY (iw s (cb l C)) (cb l C).length).map L2.T.lst),L2.T.lst ((cb l C).map λo=>aa (pL o))]=_;rw[HV,WJ]
  rfl
 .rw[Sx,c];exact λy t p=>m y (_D (by rwa[c])) p
def Jr(j:zI)(a:xm):Rat:=(j.map λw=>w.2*((a.getD w.1 0:Int):Rat)).sum
structure FO(j:zI)(tp:xm):Prop where
 few:j.length<=1000
 lt:∀w∈j,w.1<tp.length
 num:∀w∈j,Bd w.2.num
 lcm:Bd (b_ 1 (j.map (·.2)):Nat)
 part:∀t∈tops (b_ 1 (j.map (·.2))) (j.map (·.2)),Bd t
 top:∀t∈tp,Bd t
def zW:ST:=λb q=>∃(o:bM)(a:xm),b=[cz o,.lst (a.map T.int)]/\FO o.ways a/\q (.fz (aa (Jr o.ways a)))
theorem Q5{B:Nat}(f:0<B)(a:xm):∀j:zI,(∀w∈j,w.2.den ∣ B)->divInt ((j.map λw=>w.2.num*((B/w.2.den:Nat):Int)*a.getD w.1 0).sum) B=Jr j a
 |[],_=>by
  show divInt 0 B=0;exact QP _
 |w::j,h=>by
  have c:=Q5 f a j λx d=>h x (aJ _ d);show divInt (w.2.num*((B/w.2.den:Nat):Int)*a.getD w.1 0+(j.map λw=>w.2.num*((B/w.2.den:Nat):Int)*a.getD w.1 0).sum) B=w.2*((a.getD w.1 0:Int):Rat)+Jr j a;rw[<- c,UQ,UQ,Rat.intCast_add,XU];have e:((w.2.num*((B/w.2.den:Nat):Int):Int):Rat)/((B:Int):Rat)=w.2:=by
   obtain⟨k,b⟩:=h w (aO ..);have hd:=w.2.den_pos;rw[show B/w.2.den=k by rw[b];exact Nat.mul_div_cancel_left _ hd];have g:k≠0:=λz=>by rw[z]at b;lia
   rw[<- UQ,b,Ts,Rat.divInt_mul_right wp];exact rd _
  have i:((B:Int):Rat)≠0:=λz=>by have:=Rat.intCast_eq_zero_iff.mp z;lia
  grind
def adA(j:List Q)(g h:Q->Int):((j.map g).zip j).map (λp=>p.1*h p.2)=j.map λw=>g w*h w:=by
 induction j with
 |nil=>rfl
 |cons w j a=>exact ZH (List.cons _) a
def Ar(F:Fun K n6 n6 lN f G)(T:Txt K mg D)(m:ag P w K mg base 2 p7 nZ vq)(Z:ag P w K mg base 2 pU nW uW):bW P w K mg base ab 3 f G jz (am K zW):=by
 refine F.okT Mq (λ_ _=>bF (bO 2 (bI m (bx (c7 (bG lN) lE lE ["room","chance"] (cI (bJ wn bA)) (fH (n:=2) (bT (d_ (i:=0)) (bT (d_ (i:=1)) dN))) cC we) bC)))
  (bH (bN (bI Z (bx (bY (XM rfl) T.ab3 boot_sum (bx (c7 (bG lN) lE lE ["part","way"] (zJ T.Jg (bx (bJ wa bA) (bx (bJ wn bA) bC))) (fH (n:=2) (bT (d_ (i:=0)) (bT (d_ (i:=1)) dN))) cC (bL cQ wn (bJ wP (bJ we bA)))) bC)) (bx (bJ wa bA) bC)))))) ?_
 rintro _ R ⟨o,d,rfl,h,q⟩;refine⟨by rw[ak];exact aL h.few wf,comp_map dz (λw=>aa w.2) o.ways (λw hw N M c=>⟨rfl,c⟩) ?_⟩;have k:=eE (o.ways.map (·.2)) VU;refine⟨o.ways.map (·.2),by rw[WJ];rfl,by rw[ak];exact h.few,λr j=>?_,h.lcm,?_⟩
 .obtain⟨w,hw,rfl⟩:=YV.mp j;exact h.num w hw
 .refine⟨by unfold xZ;rw[ak,VZ,ak,ak];exact aL (aL (Nat.min_le_right ..) h.few) wf,?_⟩;rw[zip_map];refine comp_map (λp:Int×(Nat×Rat)=>.tup [.int p.1,dz p.2]) (λp=>.int (p.1*d.getD p.2.1 0)) _ (λp e N M c=>?a) ?b
  case a =>
   have g:=(VX e).2;have lt:=h.lt _ g;have c:N (.int (p.1*d.getD p.2.1 0)):=c;rw[au,aj lt]at c;exact⟨rfl,_,ju (aj lt),⟨h.part _ (VX e).1,h.top _ (aU lt)⟩,c⟩
  case b =>
   refine⟨((tops (b_ 1 (o.ways.map (·.2))) (o.ways.map (·.2))).zip o.ways).map λp=>p.1*d.getD p.2.1 0,by rw[WJ];rfl,_,_,rfl,by lia,h.lcm,λx y l=>?_⟩;rw[jY l wp];unfold tops;rw[WJ,adA o.ways _ λw=>d.getD w.1 0];have:=Q5 k d o.ways λw hw=>(jE (o.ways.map (·.2))).2 w.2 (YV.mpr ⟨w,hw,rfl⟩);rw[<- this]at q;exact q
def Jf:ST:=λa q=>∃(r:Rat)(u:xz),a=[.lst ((r::u).map aa)]/\(∀x∈r::u,Bq x)/\∀m,m∈r::u->(∀x∈r::u,x<=m)->q (.fz (aa m))
def Ww(F:Fun K iG iG vK f G)(T:Txt K mg D)(j:ag P w K mg base 1 ni mj rZ):bW P w K mg base ab 2 f G iI (am K Jf):=by
 refine F.okT Iv (λ_ _=>bF (bO 1 iB)
  (bF (eV (cI wn) (cB (n:=99) 2)
  (bH (cG (QW.qt (g8 (cj Ba we iB) (eX (cN (bI j (bx we (bx wa bC)))))))
  (bH (bO 1 wa))
  bQ)))
  (bH (bN we)))) ?_
 rintro _ R ⟨r,u,rfl,h,q⟩;refine gG aa (r::u) (λd o=>(d=[]/\∃x,o=[.fz (.lst ((r::u).map aa)),.fz .non,x])\/∃m x,o=[.fz (.lst ((r::u).map aa)),.fz (aa m),x]/\m∈d/\∀x∈d,x<=m) (.inl ⟨rfl,_,rfl⟩) ?_ ?_
 .rintro d a p _ e (⟨rfl,x,rfl⟩|⟨m,x,rfl,c,g⟩)
  .exact .inr ⟨a,_,rfl,by simp,λx b=>by rw[show x=a by simpa using b];exact VQ⟩
  .have l:Bq a:=h a (e ▸ by simp);have k:Bq m:=h m (e ▸ U2 _ c);exact⟨m,a,rfl,k,l,c4 (λlt=>.inr ⟨a,_,rfl,by simp,λx b=>(Y1.mp b).elim (λz=>Tu (g x z) (Th lt)) λz=>by rw[YR.mp z];exact VQ⟩) λi=>.inr ⟨m,_,rfl,U2 _ c,λx b=>(Y1.mp b).elim (g x) λz=>by rw[YR.mp z];exact Rat.not_lt.mp i⟩⟩
 .rintro _ (⟨z,_⟩|⟨m,x,rfl,c,b⟩)
  .cases z
  .exact q m c b
structure p6(s:Rat)(o:bM)(tp:xm)(B:Nat):Prop where
 bh:FO o.ways tp
 pay:Bq o.pay
 bs:Bq s
 b:Bd (B:Int)
 dw:Bq (Jr o.ways tp)
 d1:Bd ((s.den:Int)*(Jr o.ways tp).den)
 p1:Bq (o.pay*(B:Rat))
 p2:Bq (s*Jr o.ways tp)
 d2:Bd (((o.pay*(B:Rat)).den:Int)*(s*Jr o.ways tp).den)
def gZ(s:Rat)(a:xm)(B:Nat)(o:bM):Rat:=o.pay*(B:Rat)+s*Jr o.ways a
def sU(D:a'):ST:=λb q=>∃(s:Rat)(d:Φ)(l:zD)(o:bM)(a:xm)(B:Nat),b=[bu D s d l,cz o,.tup [.lst (a.map T.int),.int (B:Nat)]]/\p6 s o a B/\q (.fz (aa (gZ s a B o)))
def zE(F:Fun K jV jV uK f G)(T:Txt K mg D)(g:ag P w K mg base 3 n6 jz zW)(e:ag P w K mg base 3 BR vO Kc)(c:ag P w K mg base 3 uT sV Fy):bW P w K mg base ab 4 f G iC (am K (sU D)):=by
 refine F.okT Lp (λ_ _=>bF (bO 3 (bI g (bx we (bx (bJ wa bA) bC))))
  (bH (bN (bI e (bx (bI c (bx (bJ we bA) (bx (dB (bx (bJ wa bA) (bx bA bC))) bC))) (bx (bI c (bx (sE (Fm:=bb D) (λC h=>⟨T.cl C h,T.zX C h⟩) wn) (bx wP bC))) bC)))))) ?_
 rintro _ R ⟨s,d,l,o,a,B,rfl,h,q⟩;refine⟨o,a,rfl,h.bh,o.pay,(B:Rat),rfl,h.pay,⟨h.b,hh.2⟩,?_,su D,_,rfl,s,Jr o.ways a,rfl,h.bs,h.dw,h.d1,_,_,rfl,h.p1,h.p2,h.d2,q⟩;show Bd ((o.pay.den:Int)*1);rw[T1];exact h.pay.2
def ZD(u:xz)(d b:Nat):Prop:=(∀x∈u,x<=u.getD d 0)/\b=d\/((u.getD d 0)<u.getD b 0/\b<u.length/\(∀x∈u,x<=u.getD b 0)/\∀i,i<b->u.getD i 0≠u.getD b 0)
def Rs{b:Rat}(h:(a.num,((a.den:Nat):Int))=(b.num,((b.den:Nat):Int))):a=b:=by
 injection h with c d;exact Rat.ext c wp
def _E{u:xz}{m:Rat}(h:m∈u):∃j:Nat,u[j]?=some m/\∀(i:Nat)g,i<j->u[i]?=some g->g≠m:=by
 induction u with
 |nil=>cases h
 |cons r u b =>
  by_cases e:r=m
  .exact⟨0,by rw[e];rfl,λi _ z=>absurd z (WU _)⟩
  .obtain⟨j,f,d⟩:=b ((YU.mp h).resolve_left λz=>e z.symm);refine⟨j+1,f,λi g c a=>?_⟩;cases i with
   |zero=>cases a;exact e
   |succ i=>exact d i g (Nat.lt_of_succ_lt_succ c) a
def yR:ST:=λa q=>∃(u:xz)(d:Nat),a=[.lst (u.map aa),.int (d:Nat)]/\d<u.length/\u.length<=1000/\(∀x∈u,Bq x)/\∀b:Nat,ZD u d b->q (.fz (.int (b:Nat)))
def Lg(F:Fun K oh oh uN f G)(T:Txt K mg D)(C:ag P w K mg base 2 iG iI Jf)(H:ag P w K mg base 1 ni mj rZ):bW P w K mg base ab 3 f G jF (am K yR):=by
 refine F.okT MP (λB _=>bF (bO 2 (bI C (bx wn bC)))
  (bF (cG (cN (bI H (bx (bJ wn we) (bx wa bC))))
  (bH (bN (OP B.units wn (bx wa bC))))
  bQ)
  (bH (bN we)))) ?_
 rintro _ R ⟨u,d,rfl,hd,n,k,q⟩;have y:=aj hd;have v:u.getD d 0=u[d]:=by rw[au,y];rfl
 obtain⟨r,s,p⟩ : ∃r s,u=r::s:=by
  cases u with
  |nil=>exact absurd hd (WU _)
  |cons r u=>exact⟨r,u,rfl⟩
 refine⟨r,s,by rw[p];rfl,λx b=>k x (p ▸ b),λm h b=>?_⟩;rw[<- p]at h b;refine⟨_,ju y,_,m,rfl,k _ (aU hd),k m h,c4 (λlt=>?_) λA=>?_⟩
 .obtain⟨j,e,t⟩:=_E h;have l:u.getD j 0=m:=by rw[au,e];rfl
  refine⟨u.map λr=>(r.num,((r.den:Nat):Int)),(m.num,((m.den:Nat):Int)),j,by rw[WJ];rfl,rfl,by rw[ak];exact aL n wf,by rw[aq,e];rfl,λi g c o=>?_,q j (.inr ⟨by rw[v,l];exact lt,(ao.mp e).1,by rw[l];exact b,λi c=>?_⟩)⟩
  .rw[aq]at o;have a:i<u.length:=UU c (ao.mp e).1;rw[aj a]at o;cases o;exact λz=>t i _ c (aj a) (Rs z)
  .have a:i<u.length:=UU c (ao.mp e).1;rw[l,au,aj a];exact t i _ c (aj a)
 .refine q d (.inl ⟨λx E=>?_,rfl⟩);rw[v];exact Tu (b x E) (Rat.not_lt.mp A)
structure Q_(s:Rat)(l:zD)(tp:xm)(B:Nat)(C bS:zS):Prop where
 len:bS.length=C.length
 none:∀k:Nat,C[k]?=some none->bS[k]?=some none
 some:∀(k d:Nat)(ds:List bM),C[k]?=some (some d)->l[k]?=some ds->∃b,bS[k]?=some (some b)/\ZD (ds.map (gZ s tp B)) d b
structure kA(s:Rat)(l:zD)(A:xz):Prop where
 few:A.length<=1000
 num:∀r∈A,Bd r.num
 lcm:Bd (b_ 1 A:Nat)
 look:∀ds∈l,∀o∈ds,p6 s o (tops (b_ 1 A) A) (b_ 1 A)/\Bq (gZ s (tops (b_ 1 A) A) (b_ 1 A) o)/\Bd (((gZ s (tops (b_ 1 A) A) (b_ 1 A) o).den:Int)*(b_ 1 A:Nat))
def Ii(D:a'):ST:=λb R=>∃(s:Rat)(d:Φ)(l:zD)(C:zS)(A:xz),b=[bu D s d l,.lst (C.map dT),.lst (A.map aa)]/\yc d l/\cf l C/\kA s l A/\∀a:zS,Q_ s l (tops (b_ 1 A) A) (b_ 1 A) C a->R (.l1 (a.map dT))
theorem aaX(F:Fun K vB vB Ef f G)(T:Txt K mg D)(fK:ag P w K mg base 4 jk gQ (pJ D))(gH:ag P w K mg base 2 p7 nZ vq)(gU:ag P w K mg base 4 jV iC (sU D))(Y:ag P w K mg base 3 oh jF yR)(cJ:OkI P w K mg base ab 3 D.Hall_offers dX (am K (rF D))):bW P w K mg base ab 5 f G rH (am K (Ii D)):=by
 refine F.okT Qf (λ_ _=>bF (jy (bI fK (bx wn (bx we bC))))
  (bF (bO 3 (bI gH (bx wa bC)))
  (bF (kY 4 (eG bC))
  (bF (eV (Fz T.pP (bx we bC)) (fH (n:=2) (bT (cB (n:=99) 5) (bT (cB (n:=99) 6) dN)))
  (bF (qP (bG Ef) Mp Mp ["offer"] (cI (Bh wn T.i_ T.jQ cJ (bx (qv 5) bC) (KS:=j8))) (d_ (i:=0)) cC (bI gU (bx we (bx wn (bx wE bC)))) (mD (i:=7) Qf.nd rfl (Or.inl rfl)))
  (bH (uD 4 (Ql (cj Ba (qv 6) iB) iB (bI Y (bx (qv 7) (bx (qv 6) bC))))))))
  (bH (mG 4)))))) ?_
 rintro _ R ⟨s,d,l,C,A,rfl,h,O,I,Z⟩;refine⟨_,_,_,_,rfl,h,O,A,rfl,I.few,I.num,I.lcm,?_⟩;have X:=I.look;generalize b_ 1 A=B at *;generalize tops B A=q at *;refine BK dT C (λk o=>∃g x y z,o=[.fz (bu D s d l),.fz (.lst (C.map dT)),.fz (.lst (A.map aa)),.fz (.tup [.lst (q.map L2.T.int),.int (B:Nat)]),.l1 (g.map dT),x,y,z]/\g.length=k/\(∀i:Nat,i<k->C[i]?=some none->g[i]?=some none)/\∀(i a:Nat)(p:List bM),i<k->C[i]?=some (some a)->l[i]?=some p->∃b,g[i]?=some (some b)/\ZD (p.map (gZ s q B)) a b) ⟨[],.und,.und,.und,rfl,rfl,λi z=>absurd z (WU _),λi a p z=>absurd z (WU _)⟩ ?_ ?_
 .rintro k a _ e ⟨g,x,y,z,rfl,t,L,J⟩;have E:k<l.length:=by rw[<- O.len];exact(ao.mp e).1
  have U:=aj E;have few:=h.few;have hl:=h.len;have W:(g.map dT).length<sizeLine:=by rw[ak];exact aR (show _<1001 by lia) wf
  have r:=aU E;have G:=h.fews _ r;have H:∀{i:Nat}(v:xC),i<k->(g++[v])[i]?=g[i]?:=λv m=>aF wp;have u:∀v:xC,(g++[v])[k]?=some v:=λv=>by rw[aD (WG t),t,Nat.sub_self];rfl
  have V:∀v:xC,g.map dT++[dT v]=(g++[v]).map dT:=λv=>by rw[bf];rfl
  refine⟨rfl,⟨rfl,rfl⟩,_,_,_,k,_,rfl,h,U,by rw[ak];exact aL G wf,comp_map cz (λo=>aa (gZ s q B o)) l[k] (λo Q N M hN=>⟨s,d,l,o,q,B,rfl,(X _ r o Q).1,hN⟩) ?_⟩;cases a with
  |none =>
   refine⟨W,g++[none],.fz (.int k),.fz .non,.fz (.lst (l[k].map λo=>aa (gZ s q B o))),?_,by simp[t],λi m j=>?_,λi a p m j=>?_⟩
   .rw[<- V]
    rfl
   .by_cases c:i=k
    .rw[c];exact u none
    .rw[H none (XX (UZ m) c)];exact L i (XX (UZ m) c) j
   .by_cases c:i=k
    .rw[c,e]at j;cases j
    .rw[H none (XX (UZ m) c)];exact J i a p (XX (UZ m) c) j
  |some a =>
   have ld:a<(l[k]).length:=of_decide_eq_true (O.ok k (some a) _ e U);refine⟨l[k].map (gZ s q B),a,by rw[WJ];rfl,by rw[ak];exact ld,by rw[ak];exact G,λx hx=>?_,λb hb=>⟨W,g++[some b],.fz (.int k),.fz (.int a),.fz (.lst (l[k].map λo=>aa (gZ s q B o))),?_,by simp[t],λi m j=>?_,λi d' p m j S=>?_⟩⟩
   .obtain⟨o,Q,rfl⟩:=YV.mp hx;exact(X _ r o Q).2.1
   .rw[<- V]
    rfl
   .by_cases c:i=k
    .rw[c,e]at j;cases j
    .rw[H (some b) (XX (UZ m) c)];exact L i (XX (UZ m) c) j
   .by_cases c:i=k
    .subst c;rw[e]at j;rw[U]at S;cases j;cases S;exact⟨b,u (some b),hb⟩
    .rw[H (some b) (XX (UZ m) c)];exact J i d' p (XX (UZ m) c) j S
 .rintro _ ⟨g,x,y,z,rfl,t,L,J⟩;exact Z g ⟨t,λk e=>L k (ao.mp e).1 e,λk a p e=>J k a p (ao.mp e).1 e⟩
open Rw (sg iz gw bZ iK jt)
def dw(j:zI)(x:Nat->Rat):Rat:=(j.map λw=>w.2*x w.1).sum
def Hz(j:zI):Rat:=(j.map (·.2)).sum
theorem cZ(w:Nat×Rat)(j:zI)(x:Nat->Rat):dw (w::j) x=w.2*x w.1+dw j x:=rfl
theorem Bg(w:Nat×Rat)(j:zI):Hz (w::j)=w.2+Hz j:=rfl
theorem Zv{M:Rat}{x:Nat->Rat} : ∀{j:zI},(∀w∈j,0<=w.2/\x w.1<=M)->dw j x<=Hz j*M
 |[],_=>by show(0:Rat)<=0*M;rw[Rat.zero_mul];exact VQ
 |w::j,h=>by
  rw[cZ,Bg];have:=Zv (j:=j) λv c=>h v (aJ _ c);obtain⟨a,b⟩:=h w (aO ..);have:=UH b a
  grind
theorem DA{m:Nat}{x:Nat->Rat} : ∀{j:zI},(∀w∈j,w.1<m)->sg (λa=>uE j a*x a) m=dw j x
 |[],_=>by
  show sg (λa=>0*x a) m=0;rw[bZ (g:=λ_=>0) λa _=>Rat.zero_mul _,iK]
 |w::j,h=>by
  rw[cZ,<- DA (m:=m) (j:=j) λv b=>h v (aJ _ b)];rw[bZ (g:=λa=>(if a=w.1 then 1 else 0)*(w.2*x a)+uE j a*x a) λa _=>?_,iz,jt (v:=λa=>w.2*x a),ZY (h w (aO ..))];show((if w.1=a then w.2 else 0)+uE j a)*x a=_;by_cases e:w.1=a
  .rw[ZY e,ZY e.symm];grind
  .rw[ZZ e,ZZ (Ne.symm e)];grind
theorem Ev(x:Nat->Rat):∀{m:Nat},0<m->∃i,i<m/\∀j,j<m->x j<=x i
 |0,h=>absurd h (WU _)
 |1,_=>⟨0,VU,λj a=>by rw[show j=0 by exact Nat.eq_zero_of_le_zero (UZ a)];exact VQ⟩
 |m+2,_=>by
  obtain⟨i,b,h⟩:=Ev x (m:=m+1) (TU _);by_cases c:x i<=x (m+1)
  .refine⟨m+1,by exact X2 _,λj a=>?_⟩;by_cases e:j=m+1
   .rw[e];exact VQ
   .exact Tu (h j (XX (UZ a) e)) c
  .refine⟨i,by exact UU b (X2 _),λj a=>?_⟩;by_cases e:j=m+1
   .rw[e];exact Th (Rat.not_le.mp c)
   .exact h j (XX (UZ a) e)
structure ck(s:Rat)(m:Nat)(j:zI):Prop where
 lt:∀w∈j,w.1<m
 nn:∀w∈j,0<=w.2
 one:Hz j<=1
def sub_le{j:Nat->zI}(q:0<=s)(o:s<1)(c:∀i,i<m->ck s m (j i))(h:∀i,i<m->x i<=s*dw (j i) x):∀a,a<m->x a<=0:=λa r=>by
 obtain⟨i,n,l⟩:=Ev x (m:=m) wp;refine Tu (l a r) (Rat.not_lt.mp λp=>?_);have b:=c i n;have d:dw (j i) x<=Hz (j i)*x i:=Zv λw c=>⟨b.nn w c,l _ (b.lt w c)⟩;have e:Hz (j i)*x i<=1*x i:=l6 b.one (Th p);have f:=UH (Tu d e) q;have g:=h i n;have k:s*x i<1*x i:=Rat.mul_lt_mul_of_pos_right o p
 grind
def YF{a:xp}(b:i<a.length)(h:∀w∈lB (a.getD i none),w.1<a.length):sg (λj=>iw s a i j*x j) a.length=x i-s*dw (lB (a.getD i none)) x:=by
 rw[<- DA h,bZ (g:=λj=>(if j=i then 1 else 0)*x j+(-s)*(uE (lB (a.getD i none)) j*x j)) λj _=>by unfold iw;grind,iz,gw,jt (v:=x),ZY b]
 grind
def G8{b:xp}(h:∀i,i<b.length->ck s b.length (lB (b.getD i none))):Br s b y↔∀i,i<b.length->y i=pL (b.getD i none)+s*dw (lB (b.getD i none)) y:=by
 constructor
 .intro w i a;have:=w i a;rw[YF a (h i a).lt]at this
  grind
 .intro w i a;rw[YF a (h i a).lt];have:=w i a
  grind
theorem Tf(x:Nat->Rat):∀j:zI,dw j (λa=>-(x a))=-(dw j x)
 |[]=>by show(0:Rat)=-0;grind
 |w::j=>by rw[cZ,cZ,Tf x j];grind
def Of{c:xp}(g:0<=s)(f:s<1)(h:∀i,i<c.length->ck s c.length (lB (c.getD i none)))(x:Nat->Rat)(l:∀i,i<c.length->sg (λj=>iw s c i j*x j) c.length=0):∀j,j<c.length->x j=0:=λj k=>by
 have e:∀i,i<c.length->x i=s*dw (lB (c.getD i none)) x:=λi d=>by
  have:=l i d;rw[YF d (h i d).lt]at this
  grind
 have a:=sub_le g f h (x:=x) (λi d=>by rw[<- e i d];exact VQ) j k;have b:=sub_le g f h (x:=λj=>-(x j)) (λi d=>by
  show -(x i)<=_;rw[Tf,e i d]
  grind) j k
 grind
open Rw (sg iz gw bZ iK jt Big)
def wV(s:Rat)(a:xp):(EY (Dy s a) (a.map pL)).length=a.length:=by rw[JP,Sx,ak,UV]
def _1{a:xp}(c:0<=s)(b:s<1)(h:∀i,i<a.length->ck s a.length (lB (a.getD i none)))(x:Nat->Rat)(g:∀j,a.length<=j->x j=0)(d:∀r∈EY (Dy s a) (a.map pL),sg (λj=>r.getD j 0*x j) (a.length+1)=0):∀j,j<a.length->x j=0:=by
 refine Of c b h x λi f=>?_;have:=d _ (aC (YT f));rw[<- this];show _=sg (λj=>(((range a.length).map λj=>iw s a i j)++[pL (a.getD i none)]).getD j 0*x j) a.length+_*x a.length;rw[g _ (aG _),Rat.mul_zero,Rat.add_zero];exact bZ λj e=>ZH (· * x j) (YM _ _ e).symm
def _e{A Q:Nat}{r:xz}(e:1<=A)(d:0<Q)(h:∀c∈r,c.den ∣ Q/\c.num.natAbs<=A*c.den):Big (A*Q) (kE r):=by
 have f:=eE r VU;have hd:b_ 1 r ∣ Q:=jU r (U1 _) λc a=>(h c a).1;have le:=UX d hd;refine⟨by show(0:Int)<(b_ 1 r:Nat);lia,?_,λt b=>?_⟩
 .show((b_ 1 r:Nat):Int).natAbs<=A*Q;rw[X0];exact aL le (l5 _ e)
 .obtain⟨c,a,rfl⟩:=YV.mp b;rw[VW,X0];refine aL (kl _ (h c a).2) ?_;rw[Nat.mul_assoc,Nat.mul_div_cancel' ((jE r).2 c a)];exact TH _ le
def Ke{a:xp}{r:xz}(c:r∈EY (Dy s a) (a.map pL)):∃i,i<a.length/\r=((range a.length).map λj=>iw s a i j)++[pL (a.getD i none)]:=by
 obtain⟨i,e⟩:=aV c;have b:i<a.length:=by have:=(ao.mp e).1;rw[wV]at this;exact this
 rw[YT b]at e;injection e with e;exact⟨i,b,e.symm⟩
def aaS(A:xz)(k:Nat):(((tops (b_ 1 A) A).getD k 0:Int):Rat)=A.getD k 0*((b_ 1 A:Nat):Rat):=by
 have h:=Kq A k;unfold Rw.vr at h;have a:=eE A VU;have n:((((b_ 1 A:Nat):Int)):Rat)≠0:=λz=>by have:=Rat.intCast_eq_zero_iff.mp z;lia
 have e:((((b_ 1 A:Nat):Int)):Rat)=((b_ 1 A:Nat):Rat):=rfl;rw[<- e,<- h];show _=(((tops (b_ 1 A) A).getD k 0:Int):Rat)/_*_
 grind
theorem Fs(A:xz):∀j:zI,Jr j (tops (b_ 1 A) A)=dw j (λk=>A.getD k 0)*((b_ 1 A:Nat):Rat)
 |[]=>by show(0:Rat)=0*_;rw[Rat.zero_mul]
 |w::j=>by
  show w.2*(((tops (b_ 1 A) A).getD w.1 0:Int):Rat)+Jr j _=_;rw[Fs A j,cZ,aaS]
  grind
def JL(s:Rat)(y:Nat->Rat)(o:bM):Rat:=o.pay+s*dw o.ways y
def qX(s:Rat)(A:xz)(o:bM):gZ s (tops (b_ 1 A) A) (b_ 1 A) o=JL s (λk=>A.getD k 0) o*((b_ 1 A:Nat):Rat):=by
 unfold gZ JL;rw[Fs]
 grind
theorem Ml{x z:Nat->Rat} : ∀{j:zI},(∀w∈j,x w.1=z w.1)->dw j x=dw j z
 |[],_=>rfl
 |w::j,h=>by rw[cZ,cZ,h w (aO ..),Ml λv a=>h v (aJ _ a)]
theorem T8{x z:Nat->Rat} : ∀{j:zI},(∀w∈j,0<=w.2/\x w.1<=z w.1)->dw j x<=dw j z
 |[],_=>VQ
 |w::j,h=>by
  rw[cZ,cZ];have:=T8 (j:=j) λv c=>h v (aJ _ c);obtain⟨a,b⟩:=h w (aO ..);have:=UH b a
  grind
theorem DR(x z:Nat->Rat):∀j:zI,dw j (λa=>x a-z a)=dw j x-dw j z
 |[]=>by show(0:Rat)=0-0;grind
 |w::j=>by rw[cZ,cZ,cZ,DR x z j];grind
def o8(s:Rat)(y:Nat->Rat)(c:xB):Rat:=pL c+s*dw (lB c) y
def G7{c:Nat->xB}{z:Nat->Rat}(f:0<=s)(e:s<1)(k:∀i,i<m->ck s m (lB (c i)))(h:∀i,i<m->y i<=o8 s y (c i))(g:∀i,i<m->z i=o8 s z (c i)):∀i,i<m->y i<=z i:=λi d=>by
 have:=sub_le f e k (x:=λj=>y j-z j) (λi d=>by
  rw[DR];show y i-z i<=_;have a:=h i d;have b:=g i d;unfold o8 at a b
  grind) i d
 grind
def _F{c:Nat->xB}{z:Nat->Rat}(d:0<=s)(h:s<1)(a:∀i,i<m->ck s m (lB (c i)))(l:∀i,i<m->y i<=o8 s y (c i))(f:∀i,i<m->z i=o8 s z (c i))(b:i<m)(lt:y i<o8 s y (c i)):y i<z i:=by
 have le:=G7 d h a l f;have k:=T8 (j:=lB (c i)) (x:=y) (z:=z) λw g=>⟨(a i b).nn w g,le _ ((a i b).lt w g)⟩;have n:=UH k d;have e:=f i b;unfold o8 at lt e
 grind
def Cr{l:zD}{d:xC}(e:C[i]?=some d):(cb l C).getD i none=d.bind λd=>(l.getD i [])[d]?:=by
 unfold cb;rw[au,aq,List.getElem?_zipIdx,e];simp
def YI{a:List bM}{d b:Nat}(hd:d<a.length)(h:ZD (a.map (gZ s (tops (b_ 1 A) A) (b_ 1 A))) d b):b=d\/∃o p,a[d]?=some o/\a[b]?=some p/\JL s (λk=>A.getD k 0) o<JL s (λk=>A.getD k 0) p:=by
 rcases h with⟨_,e⟩|⟨lt,c,_⟩
 .exact .inl e
 .rw[ak]at c;refine .inr ⟨_,_,aj hd,aj c,?_⟩;rw[au,au,aq,aq,aj hd,aj c]at lt;have lt:gZ s (tops (b_ 1 A) A) (b_ 1 A) a[d]<gZ s (tops (b_ 1 A) A) (b_ 1 A) a[b]:=lt;rw[qX,qX]at lt;have f:=eE A VU;have p:(0:Rat)<((b_ 1 A:Nat):Rat):=by
   have:((0:Int):Rat)<(((b_ 1 A:Nat):Int):Rat):=Rat.intCast_lt_intCast.mpr wp;exact this
  exact(Rat.mul_lt_mul_right p).mp lt
def uZ{l:zD}{p:xm}{B:Nat}{o:zS}(j:cf l C)(h:Q_ s l p B C o):cf l o:=by
 refine⟨by rw[h.len,j.len],λk d g f n=>?_⟩;have q:k<C.length:=by rw[<- h.len];exact(ao.mp f).1
 have e:=aj q;have a:=j.ok k _ g e n;cases m:C[k]with
 |none =>
  rw[m]at e a;rw[h.none k e]at f;cases f;exact a
 |some c =>
  rw[m]at e a;obtain⟨b,t,r⟩:=h.some k c g e n;rw[t]at f;cases f;have u:c<g.length:=of_decide_eq_true a;rcases r with⟨_,rfl⟩|⟨_,i,_⟩
  .exact a
  .rw[ak]at i;exact Zs i
def mx{l:zD}{e:zS}{z:Nat->Rat}(v:0<=s)(u:s<1)(hw:∀L∈l,∀o∈L,ck s l.length o.ways)(q:cf l C)(h:Q_ s l (tops (b_ 1 A) A) (b_ 1 A) C e)
 (G:∀i,i<l.length->A.getD i 0=o8 s (λk=>A.getD k 0) ((cb l C).getD i none))(w:∀i,i<l.length->z i=o8 s z ((cb l e).getD i none)):(∀i,i<l.length->A.getD i 0<=z i)/\∀i,i<l.length->e[i]?≠C[i]?->A.getD i 0<z i:=by
 have B:=uZ q h;have t:∀{g:zS},cf l g->∀i,i<l.length->ck s l.length (lB ((cb l g).getD i none)):=λ{g}x i a=>by
  have c:=aj (show i<g.length by rwa[x.len]);rw[Cr c];cases g[i]'(by rwa[x.len])with
  |none=>exact⟨λ_ z=>(nomatch z),λ_ z=>(nomatch z),by show(0:Rat)<=1;decide⟩
  |some d =>
   show ck s l.length (lB ((l.getD i [])[d]?));rw[au,aj a];show ck s l.length (lB (l[i][d]?));cases n:l[i][d]? with
   |none=>exact⟨λ_ z=>(nomatch z),λ_ z=>(nomatch z),by show(0:Rat)<=1;decide⟩
   |some o=>exact hw _ (aU a) o (aC n)
 have D:∀i,i<l.length->(e[i]?=C[i]?/\A.getD i 0=o8 s (λk=>A.getD k 0) ((cb l e).getD i none))\/A.getD i 0<o8 s (λk=>A.getD k 0) ((cb l e).getD i none):=λi a=>by
  have F:i<C.length:=by rwa[q.len]
  have c:=aj F;have r:=aj a;have I:l.getD i []=l[i]:=by rw[au,r];rfl
  have m:=G i a;rw[Cr c]at m;cases n:C[i]with
  |none =>
   rw[n]at c m;have f:=h.none i c;exact .inl ⟨by rw[f,c],by rwa[Cr f]⟩
  |some d =>
   rw[n]at c m;obtain⟨b,f,H⟩:=h.some i d _ c r;have ld:d<(l[i]).length:=of_decide_eq_true (q.ok i (some d) _ c r);rcases YI ld H with rfl|⟨o,p,K,J,lt⟩
   .exact .inl ⟨by rw[f,c],by rwa[Cr f]⟩
   .refine .inr ?_;rw[Cr f,m];show o8 s _ ((l.getD i [])[d]?)<o8 s _ ((l.getD i [])[b]?);rw[I,K,J];exact lt
 have j:∀i,i<l.length->A.getD i 0<=o8 s (λk=>A.getD k 0) ((cb l e).getD i none):=λi a=>(D i a).elim (λz=>by rw[<- z.2];exact VQ) Th;exact⟨G7 (y:=λk=>A.getD k 0) v u (t B) j w,λi a E=>_F (y:=λk=>A.getD k 0) v u (t B) j w a ((D i a).resolve_left λz=>E z.1)⟩
theorem Iw{Q:Type}{g:Q->PyData}(h:∀x,PyData.canLay0 (g x)):∀a:List Q,PyData.canLayAll0 (a.map g)
 |[]=>rfl
 |x::a=>by rw[map_cons];unfold PyData.canLayAll0;rw[Iw h a,h x];rfl
theorem LK{Q:Type}{g:Q->PyData}{n:Nat}(h:∀x,PyData.depth (g x)<=n):∀a:List Q,PyData.depthAll (a.map g)<=n
 |[]=>aZ _
 |x::a=>by
  rw[map_cons];unfold PyData.depthAll;have:=LK h a;have:=h x;lia
theorem Lz{Q:Type}{g:Q->PyData}{h:Q->T}(e:∀x,h x=hY (g x)):∀a:List Q,a.map h=j3 (a.map g)
 |[]=>rfl
 |x::a=>by rw[map_cons,map_cons,Lz e a,e x];rfl
theorem Wn{Q:Type}[DecidableEq Q]{g:Q->PyData}(h:∀x y,PyData.eqv (g x) (g y)=decide (x=y)):∀a A:List Q,PyData.eqvAll (a.map g) (A.map g)=decide (a=A)
 |[],[]=>rfl
 |[],_::_=>rfl
 |_::_,[]=>rfl
 |x::a,y::A=>by
  rw[map_cons,map_cons];unfold PyData.eqvAll;rw[h,Wn h a A,<- Bool.decide_and];exact decide_eq_decide.mpr ⟨λz=>by rw[z.1,z.2],λz=>List.cons.inj z⟩
structure EqD{Q:Type}[DecidableEq Q](h:Q->T)(g:Q->PyData):Prop where
 of:∀x,h x=hY (g x)
 lay:∀x,PyData.canLay0 (g x)
 dep:∀x,PyData.depth (g x)<=60
 eqv:∀x y,PyData.eqv (g x) (g y)=decide (x=y)
def EqD.lst{Q:Type}[DecidableEq Q]{h:Q->T}{g:Q->PyData}(E:EqD h g)(a:List Q):SeqAt.shaped (.list (a.map g)):=by
 have c:PyData.canLay0 (.list (a.map g)):=by unfold PyData.canLay0;exact Iw E.lay a
 have b:PyData.depth (.list (a.map g))<=64:=by unfold PyData.depth;have:=LK E.dep a;lia
 unfold SeqAt.shaped;rw[c,Zs b];rfl
def EqD.gEq{Q:Type}[DecidableEq Q]{h:Q->T}{g:Q->PyData}(E:EqD h g){b:Bool}{a c:List Q}{q:OT->Prop}(d:q (.fz (.bl (xr b (decide (a=c)))))):gEq b (.lst (a.map h)) (.lst (c.map h)) q:=by
 refine⟨.list (a.map g),.list (c.map g),ZH L2.T.lst (Lz E.of a),ZH L2.T.lst (Lz E.of c),E.lst a,E.lst c,?_⟩;unfold PyData.eqv;rwa[Wn E.eqv]
def dD:xC->PyData
 |none=>.none
 |some d=>.int (d:Nat)
def _w:EqD dT dD:=⟨λx=>by cases x<;>rfl,λx=>by cases x<;>rfl,λx=>by cases x<;>exact aZ _,λx y=>by
 cases x<;>cases y
 .rfl
 .rfl
 .rfl
 .rename_i a b
  show decide ((a:Int)=(b:Int))=_;exact decide_eq_decide.mpr ⟨λz=>by rw[Int.ofNat.inj z],λz=>by rw[Option.some.inj z]⟩⟩
def vf:zD->List zS
 |[]=>[[]]
 |a::l=>((if a=[]then[none]else(range a.length).map some).map λd=>(vf l).map λC=>d::C).flatten
theorem Zg:∀{l:zD}{C:zS},cf l C->C∈vf l
 |[],C,h=>by
  have:=h.len;rw[List.length_eq_zero_iff.mp this];exact YR.mpr rfl
 |a::l,[],h=>by have:=h.len;cases this
 |a::l,d::C,h=>by
  have c:=Zg (l:=l) (C:=C) ⟨Nat.succ.inj h.len,λk d a f e=>h.ok (k+1) d a f e⟩;have b:=h.ok 0 d a rfl rfl;refine List.mem_flatten.mpr ⟨_,YV.mpr ⟨d,?_,rfl⟩,YV.mpr ⟨C,c,rfl⟩⟩;cases d with
  |none =>
   have:a.length=0:=of_decide_eq_true b;rw[ZY (List.length_eq_zero_iff.mp this)];exact YR.mpr rfl
  |some d =>
   have:d<a.length:=of_decide_eq_true b;rw[ZZ λz=>by rw[z]at this;cases this];exact YV.mpr ⟨d,List.mem_range.mpr this,rfl⟩
theorem Pg{Q:Type} : ∀{l l':List Q},l.Nodup->(∀a∈l,a∈l')->l.length<=l'.length
 |[],_,_,_=>aZ _
 |a::l,l',e,h=>by
  obtain⟨s,t,rfl⟩:=List.append_of_mem (h a (aO ..));have c:=List.nodup_cons.mp e;have:=Pg (l:=l) (l':=s++t) c.2 λb d=>by
   have m:=h b (aJ _ d);rcases Y1.mp m with z|z
   .exact U2 _ z
   .rcases YU.mp z with y|y
    .exact absurd (y ▸ d) c.1
    .exact aP _ y
  rw[length_cons,aA,length_cons];rw[aA]at this;lia
def k_(s:Rat)(l:zD)(C:zS)(A:xz):Prop:=A.length=l.length/\∀i,i<l.length->A.getD i 0=o8 s (λk=>A.getD k 0) ((cb l C).getD i none)
abbrev gg(s:Rat)(l:zD)(A:xz)(C bS:zS):Prop:=Q_ s l (tops (b_ 1 A) A) (b_ 1 A) C bS
structure fx(s:Rat)(l:zD)(N:Nat):Prop where
 s0:0<=s
 s1:s<1
 few:l.length<=100
 sh:∀ds∈l,∀o∈ds,ck s l.length o.ways
 wo:∀C,cf l C->pV s (cb l C) N
 me:∀A:xz,A.length=l.length->(∀r∈A,FnB ((2*l.length*N)^l.length) r)->kA s l A
 pls:(vf l).length<sizeLine
def Cd{l:zD}(hw:∀g∈l,∀o∈g,ck s l.length o.ways){a:zS}(b:cf l a)(i:Nat)(c:i<l.length):ck s l.length (lB ((cb l a).getD i none)):=by
 have e:=aj (show i<a.length by rwa[b.len]);rw[Cr e];cases a[i]'(by rwa[b.len])with
 |none=>exact⟨λ_ z=>(nomatch z),λ_ z=>(nomatch z),by show(0:Rat)<=1;decide⟩
 |some d =>
  show ck s l.length (lB ((l.getD i [])[d]?));rw[au,aj c];show ck s l.length (lB (l[i][d]?));cases f:l[i][d]? with
  |none=>exact⟨λ_ z=>(nomatch z),λ_ z=>(nomatch z),by show(0:Rat)<=1;decide⟩
  |some o=>exact hw _ (aU c) o (aC f)
def Vo{l:zD}(c:0<=s)(b:s<1)(f:∀h∈l,∀o∈h,ck s l.length o.ways)(g:cf l C)(e:k_ s l C A)(d:k_ s l C M)(i:Nat)(a:i<l.length):A.getD i 0=M.getD i 0 :=
 Rat.le_antisymm (G7 (y:=λk=>A.getD k 0) (z:=λk=>M.getD k 0) c b (Cd f g) (λi a=>by rw[<- e.2 i a];exact VQ) d.2 i a) (G7 (y:=λk=>M.getD k 0) (z:=λk=>A.getD k 0) c b (Cd f g) (λi a=>by rw[<- d.2 i a];exact VQ) e.2 i a)
abbrev eQ:=List xC×xz
abbrev xL:=List eQ
abbrev hL(p:eQ):T:=.tup [.lst (p.1.map dT),.lst (p.2.map aa)]
structure Told(s:Rat)(l:zD)(M:Nat)(C:zS)(F:xL):Prop where
 hd:∀p,F[0]?=some p->p.1=C
 ok:∀p∈F,cf l p.1/\k_ s l p.1 p.2/\∀r∈p.2,FnB M r
 up:∀(k:Nat)p q,F[k]?=some p->F[k+1]?=some q->gg s l p.2 p.1 q.1/\q.1≠p.1
def More(m:Nat)(A M:xz):Prop:=(∀i,i<m->A.getD i 0<=M.getD i 0)/\∃i,i<m/\A.getD i 0<M.getD i 0
def More.trans{b:xz}(h:More m b A)(k:More m A M):More m b M :=
 ⟨λi a=>Tu (h.1 i a) (k.1 i a),let⟨i,a,l⟩:=h.2;⟨i,a,by have:=k.1 i a;grind⟩⟩
def MH{l:zD}{b:zS}(d:cf l C)(e:cf l b)(n:b≠C):∃i,i<l.length/\b[i]?≠C[i]?:=by
 refine Classical.byContradiction λc=>n (List.ext_getElem? λi=>?_);by_cases a:i<l.length
 .exact Decidable.byContradiction λz=>c ⟨i,a,z⟩
 .rw[aM (by rw[e.len];exact VS a),aM (by rw[d.len];exact VS a)]
def Told.step{l:zD}{M:Nat}{F:xL}(h:Told s l M C F)(B:fx s l N){p q:eQ}(c:F[k]?=some p)(b:F[k+1]?=some q):More l.length p.2 q.2:=by
 obtain⟨u,n⟩:=h.up k p q c b;obtain⟨d,m,_⟩:=h.ok p (aC c);obtain⟨j,g,_⟩:=h.ok q (aC b);obtain⟨f,e⟩:=mx (z:=λk=>q.2.getD k 0) B.s0 B.s1 B.sh d u m.2 g.2;obtain⟨i,a,ne⟩:=MH d j n;exact⟨f,i,a,e i a ne⟩
def Told.more{s:Rat}{l:zD}{M N:Nat}{C:zS}{F:xL}(h:Told s l M C F)(B:fx s l N){j:Nat}{p:eQ}(f:F[j]?=some p):∀(k:Nat){q:eQ},j<k->F[k]?=some q->More l.length p.2 q.2
 |0,_,a,_=>absurd a (WU _)
 |k+1,q,a,e=>by
  have g:k<F.length:=by have:=(ao.mp e).1;exact UU (X2 _) this
  have b:=aj g;have d:=h.step B b e;by_cases c:j=k
  .subst c;rw[f]at b;cases b;exact d
  .exact(h.more B f k (XX (UZ a) c) b).trans d
def Told.ne{l:zD}{M:Nat}{F:xL}(h:Told s l M C F)(B:fx s l N){j:Nat}{p q:eQ}(a:j<k)(c:F[j]?=some p)(b:F[k]?=some q):p.1≠q.1:=λz=>by
 obtain⟨_,i,e,lt⟩:=h.more B c k a b;obtain⟨g,f,_⟩:=h.ok p (aC c);obtain⟨m,d,_⟩:=h.ok q (aC b);rw[<- z]at d;rw[Vo B.s0 B.s1 B.sh g f d i e]at lt;exact absurd lt (by grind)
def Told.nodup{l:zD}{M:Nat}{F:xL}(h:Told s l M C F)(B:fx s l N):(F.map (·.1)).Nodup:=by
 refine List.pairwise_iff_getElem.mpr λi j c b a=>?_;rw[ak]at c b;rw[UR,UR];exact h.ne B a (aj c) (aj b)
def Told.len{l:zD}{M:Nat}{F:xL}(h:Told s l M C F)(B:fx s l N):F.length<=(vf l).length:=by
 have:=Pg (h.nodup B) (l':=vf l) λa c=>by
  obtain⟨p,b,rfl⟩:=YV.mp c;exact Zg (h.ok p b).1
 rwa[ak]at this
def Told.snoc{l:zD}{M:Nat}{F:xL}{x:eQ}(h:Told s l M C F)(j:F=[]->x.1=C)(f:cf l x.1/\k_ s l x.1 x.2/\∀r∈x.2,FnB M r)(i:∀p,F.getLast?=some p->gg s l p.2 p.1 x.1/\x.1≠p.1):Told s l M C (F++[x]):=by
 refine⟨λp e=>?_,λp g=>?_,λk p q b a=>?_⟩
 .cases F with
  |nil=>cases e;exact j rfl
  |cons y F=>exact h.hd p e
 .rcases Y1.mp g with z|z
  .exact h.ok p z
  .cases YR.mp z;exact f
 .have d:k+1<(F++[x]).length:=(ao.mp a).1;rw[aA,length_singleton]at d;rw[aF (Nat.lt_of_succ_lt_succ d)]at b;by_cases c:k+1<F.length
  .rw[aF c]at a;exact h.up k p q b a
  .rw[aD (VS c),show k+1-F.length=0 by omega]at a;cases a;exact i p (by rw[km,show F.length-1=k by omega];exact b)
def HZ{t:T}{a:xj}{q:OT->Prop}(h:q (.fz t)):ng (.tup (t::a)) (.int 0) q:=h
def Sf{c d:RT}{q:Bool->Prop}(b:Bool)(h:∀q:Bool->Prop,q b->my c d o q)(a:q b):my c d o q:=h q a
def Bj{h:Q->T}{F:List Q}{p:Q}(e:F.getLast?=some p):ca (F.map h) (-1)=some (h p):=by
 show dj (F.map h).reverse 0=_;rw[qz,<- List.map_reverse,aq,<- List.head?_eq_getElem?,List.head?_reverse,e]
 rfl
structure Zb(s:Rat)(l:zD)(M:Nat)(C:zS)(F:xL):Prop where
 told:Told s l M C F
 ne:F≠[]
 last:∀p,F.getLast?=some p->gg s l p.2 p.1 p.1
def Iz(D:a'):ST:=λa R=>∃(s:Rat)(d:Φ)(l:zD)(C:zS)(N:Nat),a=[bu D s d l,.lst (C.map dT)]/\yc d l/\cf l C/\fx s l N/\∀F:xL,Zb s l ((2*l.length*N)^l.length) C F->R (.l1 (F.map hL))
def V7(F:Fun K tZ tZ Dp f G)(T:Txt K mg D)(fK:ag P w K mg base 4 jk gQ (pJ D))(mQ:ag P w K mg base 9 mZ kI (vW D))(Y:ag P w K mg base 5 vB rH (Ii D)):bW P w K mg base ab 10 f G pW (am K (Iz D)):=by
 refine F.okT Wt (λn _=>bF (jy (bI fK (bx wn (bx we bC))))
  (bF (kY 2 (eG bC))
  (bF (bO 3 (oX R9 T.M9 boot_list (bx we bC)))
  (bF (GZ (QW.qt (g8 (cj (yA n.units) (Lw 2 (bY eF T.gk VY (bx wa bC))) bA) (eX (cj (qG n.units) wP (bJ (uG 2 (ux bA)) bA)))))
  (bF (uD 2 (dB (bx wP (bx (bI mQ (bx wn (bx wP bC))) bC))))
  (bH (bO 3 (bI Y (bx wn (bx wP (bx (bJ (uG 2 (ux bA)) bA) bC))))))))
  (bH (mG 2)))))) ?_
 rintro _ R ⟨s,d,l,C,N,rfl,h,Q,B,J⟩;generalize eM:(2*l.length*N)^l.length=M at J;refine⟨_,_,_,_,rfl,h,Q,?_⟩;refine⟨λm o=>∃(F:xL)(b:zS),o=[.fz (bu D s d l),.fz (.lst (C.map dT)),.l1 (F.map hL),.fz (.lst (b.map dT))]/\Told s l M C F/\cf l b/\(F=[]->b=C)/\(∀p,F.getLast?=some p->gg s l p.2 p.1 b)/\m+F.length=(vf l).length,⟨(vf l).length,[],C,rfl,⟨λ_ z=>(nomatch z),λ_ z=>(nomatch z),λ_ _ _ z=>(nomatch z)⟩,Q,λ_=>rfl,λ_ z=>(nomatch z),rfl⟩,?_⟩;rintro m _ ⟨F,b,rfl,t,hc,c0,V,em⟩;refine Sf (decide (F.getLast?.map (·.1)≠some b)) (λq O=>?_) (c4 (λj=>?_) λj=>?_)
 .cases e:F.getLast? with
  |none =>
   have e0:=List.getLast?_eq_none_iff.mp e;subst e0;exact⟨trivial,O⟩
  |some p =>
   have n0:F.length≠0:=λz=>by rw[List.length_eq_zero_iff.mp z]at e;cases e
   rw[e]at O;refine⟨trivial,dy (Zp (by rw[ak];lia)) ⟨_,Bj e,?_⟩⟩;dsimp only[rC,frz];refine HZ (t:=.lst (p.1.map dT)) ?_;refine _w.gEq ?_;have e2:xr true (decide (b=p.1))=decide ((some p).map (·.1)≠some b):=by
    by_cases c:b=p.1
    .rw[Zs c,c];simp
     rfl
    .rw[Zp c];have:¬(p.1=b):=λz=>c z.symm;simp[this]
     rfl
   rwa[e2]
 .refine⟨λo'=>∃(A:xz)(g:zS),o'=[.fz (bu D s d l),.fz (.lst (C.map dT)),.l1 ((F++[(b,A)]).map hL),.fz (.lst (g.map dT))]/\k_ s l b A/\(∀r∈A,FnB M r)/\gg s l A b g,?_,?_⟩
  .rintro _ ⟨A,g,rfl,h1,h2,S⟩;have I:Told s l M C (F++[(b,A)]):=t.snoc c0 ⟨hc,h1,h2⟩ λp e=>⟨V p e,λz=>j (by rw[e];exact ZH some z.symm)⟩;have a:=I.len B;rw[aA,length_singleton]at a;refine⟨(vf l).length-(F.length+1),by omega,F++[(b,A)],g,rfl,I,uZ hc S,λz=>absurd z wr,λp e=>?_,by rw[aA,length_singleton];exact kn a⟩;rw[List.getLast?_concat]at e;cases e;exact S
  .have sl:(F.map hL).length<sizeLine:=by
    rw[ak];have:=t.len B;have:=B.pls;lia
   refine⟨s,d,l,b,N,rfl,h,hc,B.few,B.wo b hc,λy hw hb=>⟨sl,?_⟩⟩;have W:((range l.length).map y).map aa=(range l.length).map λi=>aa (y i):=by rw[WJ];rfl
   have E:((range l.length).map y).length=l.length:=by rw[ak,WH]
   have H:∀k,k<l.length->((range l.length).map y).getD k 0=y k:=λk hk=>by rw[au,aq,Up hk];rfl
   have U:∀r∈(range l.length).map y,FnB ((2*l.length*N)^l.length) r:=λr n=>by
    obtain⟨i,u,rfl⟩:=YV.mp n;exact hb i (List.mem_range.mp u)
   have X:k_ s l b ((range l.length).map y):=⟨E,λi u=>by
    have Z:=Cd B.sh hc;have g:=Ho hc;rw[H i u,(G8 (by rwa[g])).mp hw i (by rwa[g])];unfold o8;rw[Ml (x:=λk=>((range l.length).map y).getD k 0) (z:=y) λw v=>H w.1 ((Z i u).lt w v)]⟩
   rw[<- W];have el:(F++[(b,(range l.length).map y)]).getLast?=some (b,(range l.length).map y):=by simp
   have L:=Bj (h:=hL) el;rw[bf]at L;refine⟨_,L,s,d,l,b,(range l.length).map y,rfl,h,hc,B.me _ E U,λg v=>⟨_,g,?_,X,eM ▸ U,v⟩⟩;rw[bf]
   rfl
 .have j:F.getLast?.map (·.1)=some b:=Decidable.not_not.mp j;refine J F ⟨t,(λz=>by rw[z]at j;cases j),λp e=>?_⟩;rw[e]at j;cases j;exact V p e
def gP{i:Int}(h:i.natAbs<18446744073709551616):Bd i:=aR h (aL (by decide:18446744073709551616<=2^64) (XG wf wf))
abbrev k3(d:xm):T:=.scr (d.map T.int)
def Rn:ST:=λa q=>∃(d:xm)(k:Nat),a=[k3 d,.int (k:Nat)]/\d.length<=100/\q (.fz (.int (d.getD k 0)))
def Fl{b:Type}(h:Q->b)(l:List Q)(lo a:xo):j7 (l.map h) lo a=(j7 l lo a).map h:=by unfold j7;rw[ak,map_take,List.map_drop]
def _0(l:List Q)(k:Nat):j7 l (some (k:Int)) (some ((k:Int)+1))=(l.drop k).take 1:=by
 unfold j7 HT.sIx;show List.take ((if(k:Int)+1<0 then _ else min ((k:Int)+1).toNat l.length)-(if(k:Int)<0 then _ else min (k:Int).toNat l.length)) (List.drop (if(k:Int)<0 then _ else min (k:Int).toNat l.length) l)=_;rw[ZZ wp,ZZ (Int.not_lt_of_ge (WZ _))];by_cases h:k<l.length
 .rw[show min ((k:Int)+1).toNat l.length=k+1 by lia,show min (k:Int).toNat l.length=k by lia,show k+1-k=1 by exact QU _ _]
 .rw[show min (k:Int).toNat l.length=l.length by lia,List.drop_length,JS (VS h),take_nil,take_nil]
def _m(F:Fun K Er Er Xv f G):bW P w K mg base ab 1 f G Bu (am K Rn):=by
 refine F.okT WA (λ_ _=>bH (bN (bJ (bL dg (pO wn (j4 we) (j4 (bL dg we bA))) (eG (bx bA bC))) bA))) ?_;rintro _ R ⟨d,k,rfl,a,q⟩;have e:j7 (d.map L2.T.int) (some (k:Int)) (some ((k:Int)+1))=((d.drop k).take 1).map L2.T.int:=by rw[Fl,_0]
 refine⟨?_,.int (d.getD k 0),?_,q⟩
 .show(j7 (d.map L2.T.int) (some (k:Int)) (some ((k:Int)+1))).length+1<=sizeLine;rw[e,ak,aY];exact aL (show _<=2 by lia) wf
 .show ca (j7 (d.map L2.T.int) (some (k:Int)) (some ((k:Int)+1))++[L2.T.int 0]) 0=_;rw[e];by_cases h:k<d.length
  .rw[ka h,List.take_succ_cons,au,aj h]
   rfl
  .rw[JS (VS h),au,aM (VS h)]
   rfl
def strN(c:Int):Nat->Int×Int
 |0=>((c%1999999973+31)*765432101%1999999973,if c<0\/10^18<=c then(c.natAbs:Int)else 0)
 |k+1=>(((strN c k).1*((strN c k).1%65521+40487)+7*(k:Int)+5)%1999999973,(strN c k).2.fdiv 1000000)
def yT(c:Int)(k:Nat):Int:=if 0<(strN c k).2 then(strN c k).2%1000000 else(strN c (k+1)).1
def Z4(c:Int):∀k,0<=(strN c k).1/\(strN c k).1<1999999973
 |0=>⟨Z3 _ wf,YY _ wf⟩
 |_+1=>⟨Z3 _ wf,YY _ wf⟩
def nU(c:Int)(k:Nat):0<=yT c k/\yT c k<2000000000:=by
 unfold yT;have:=Z4 c (k+1);split<;>lia
abbrev mK(c:Int)(n:Nat):xm:=(range n).map (yT c)
def oZ:ST:=λa q=>∃(c:Int)(n:Nat),a=[.int c,.int (n:Nat)]/\n<=1000/\q (.l1 ((mK c n).map T.int))
def abH(F:Fun K j6 j6 MN f G)(T:Txt K mg D):bW P w K mg base ab 1 f G jq (am K oZ):=by
 refine F.okT aa6 (λ_ _=>bF (kY 2 (eG bC))
  (bF (bO 3 (bL cM (bL cQ (bL dg (bL cM wn bA) bA) bA) bA))
  (bF (bO 4 bA)
  (bF (cG (QW.qt (g8 (cj Cy wn bA) (eX (cj CS wn (bL Xr bA bA)))))
  (bH (bO 4 (bY MF T.UJ boot_abs (bx wn bC))))
  bQ)
  (bF (eV (fQ T.gJ (bx we bC)) (cB (n:=99) 5)
  (bF (bO 3 (bL cM (bL dg (bL dg (bL cQ wP (bL dg (bL cM wP bA) bA)) (bL cQ bA (qv 5))) bA) bA))
  (bF (uD 2 (bJ (eG (bx wP (bx (bL cM wE bA) bC))) (oX Ry T.Pj boot_int (bx (xK IK wE bA) bC))))
  (bH (bO 4 (bL o7 wE bA))))))
  (bH (mG 2))))))) ?_
 rintro _ R ⟨c,n,rfl,e,q⟩;refine F7 (λo=>o=[.fz (.int c),.fz (.int (n:Nat)),.l1 [],.fz (.int (strN c 0).1),.fz (.int (strN c 0).2),.und]) ?_ λY d=>?_
 .rintro _ rfl;refine⟨⟨by lia,by lia⟩,?_⟩;refine yF (λk o=>∃x,o=[.fz (.int c),.fz (.int (n:Nat)),.l1 ((mK c k).map L2.T.int),.fz (.int (strN c k).1),.fz (.int (strN c k).2),x]) ⟨_,rfl⟩ ?_ ?_
  .rintro k _ g ⟨x,rfl⟩;have b:=Z4 c k;refine⟨by decide,⟨gP wp,gP wp⟩,⟨gP wf,gP wp⟩,by decide,by decide,.int (yT c k),?_,?_,⟨by decide,gP wf⟩,.fz (.int k),?_⟩
   .by_cases h:0<(strN c k).2
    .rw[Zs h];unfold yT;rw[ZY h]
     rfl
    .rw[Zp h];unfold yT;rw[ZZ h]
     rfl
   .rw[ak,ak,WH];exact aR (show k<1001 by lia) wf
   .rw[show mK c (k+1)=mK c k++[yT c k]by simp[mK,range_succ],bf]
    rfl
  .rintro _ ⟨x,rfl⟩;exact q
 .refine⟨by decide,⟨gP wp,gP wf⟩,by decide,?_⟩;refine c4 (λh=>d _ ?_) λh=>⟨⟨by decide,by decide,by decide⟩,c4 (λa=>d _ ?_) λa=>d _ ?_⟩
  .show _=[_,_,_,_,OT.fz (L2.T.int (if c<0\/10^18<=c then(c.natAbs:Int)else 0)),_];rw[ZY (.inl h)]
   rfl
  .show _=[_,_,_,_,OT.fz (L2.T.int (if c<0\/10^18<=c then(c.natAbs:Int)else 0)),_];rw[ZY (.inr a)]
   rfl
  .show _=[_,_,_,_,OT.fz (L2.T.int (if c<0\/10^18<=c then(c.natAbs:Int)else 0)),_];rw[ZZ (λz=>z.elim h a)]
   rfl
def Yy:ST:=λc q=>∃a b:Int,c=[.int a,.int b]/\q (.fz (.int (Int.gcd a b)))
def OS(F:Fun K Mj Mj px f G)(T:Txt K mg D):bW P w K mg base ab 1 f G qy (am K Yy):=by
 refine F.okT ER (λ_ _=>bF (Q8 (bY aaF T.aew boot_sorted (bx (eG (bx (bY MF T.UJ boot_abs (bx wn bC)) (bx (bY MF T.UJ boot_abs (bx we bC)) bC))) bC)) (PH (n:=2) rfl (bT (cB (n:=99) 2) (bT (cB (n:=99) 3) dN))))
  (bF (GZ (cj IK wa bA)
  (bH (P2 2 3 rfl ER.nd wf (bx (bL cM wP wa) (bx wa bC)))))
  (bH (bN wP)))) ?_
 rintro _ R ⟨a,b,rfl,q⟩;refine⟨[(a.natAbs:Int),(b.natAbs:Int)],rfl,by simp,λe d k=>?_⟩;obtain⟨l,h,rfl,c⟩ : ∃l h:Nat,e=[(l:Int),(h:Int)]/\Nat.gcd l h=Int.gcd a b:=by
  have i:=d.length_eq
  match e,i with
  |[x,y],_ =>
   have j:x=(a.natAbs:Int)\/x=(b.natAbs:Int):=by simpa using d.subset (aO ..)
   rcases j with rfl|rfl
   .have:=(List.perm_cons _).mp d;have:=List.perm_singleton.mp this;cases this;exact⟨_,_,rfl,rfl⟩
   .have:=(List.perm_cons _).mp (d.trans (List.Perm.swap _ _ _));have:=List.perm_singleton.mp this;cases this;exact⟨_,_,rfl,gcd_comm _ _⟩
 refine⟨rfl,λm o=>∃(l h:Nat),o=[.fz (.int a),.fz (.int b),.fz (.int l),.fz (.int h)]/\Nat.gcd l h=Int.gcd a b/\m=l,⟨_,_,_,rfl,c,rfl⟩,?_⟩;rintro m _ ⟨l,h,rfl,c,rfl⟩;refine c4 (λg=>?_) λg=>?_
 .refine⟨λo=>o=[.fz (.int a),.fz (.int b),.fz (.int ((h%m:Nat):Int)),.fz (.int m)],?_,?_⟩
  .rintro _ rfl;exact⟨h%m,mod_lt _ wp,h%m,m,rfl,(Nat.gcd_rec m h).symm.trans c,rfl⟩
  .exact⟨g,by rw[Int.natCast_emod];rfl⟩
 .have:m=0:=by lia
  subst this;rw[Nat.gcd_zero_left]at c;rw[<- c]at q;exact q
def BW:ST:=λc q=>∃a b:Int,c=[.int a,.int b]/\0<b/\Bd b/\q (.fz (aa (divInt a b)))
def aax(F:Fun K rE rE Ng f G)(h:ag P w K mg base 1 Mj qy Yy):bW P w K mg base ab 2 f G oW (am K BW):=by
 refine F.okT aaW (λ_ _=>bF (bO 2 (bI h (bx wn (bx we bC))))
  (bH (bN (dB (bx (bL o7 wn wa) (bx (bL o7 we wa) bC)))))) ?_
 rintro _ R ⟨a,b,rfl,g,hd,q⟩;have d:b≠0:=by exact WP g
 have e:=pH (a:=a) d;have g1:=Xg (a:=a) d hd;refine⟨_,_,rfl,⟨by exact WP e,g1⟩,⟨by exact WP e,g1⟩,?_⟩;have l:=yr (t:=a) d (c:=(Int.gcd a b:Nat)) (WP e) wp (XZ e g);rw[<- jY l d]at q;exact q
def G5:ST:=λa q=>∃r:Rat,a=[aa r]/\q (.fz (.bl true))
def Tn(F:Fun K qU qU yP f G)(T:Txt K mg D)(b:ag P w K mg base 1 Mj qy Yy):bW P w K mg base ab 2 f G nM (am K G5):=by
 refine F.okT Q0 (λa _=>bF (cG (QW.qt (g8 (cX (cN (vJ .tuple wn T.fJ T.Zy boot_tuple))) (eX (cj (qG a.units) (bY eF T.gk VY (bx wn bC)) bA))))
  (bH (bN mW))
  bQ)
  (bF (eV (RY wn) (cB (n:=99) 1)
  (bH (cG (QW.qt (g8 (cX (cN (vJ .int we T.fJ T.Pj boot_int))) (eX (cN (vJ .bool we T.fJ T.adh boot_bool)))))
  (bH (bN mW))
  bQ)))
  (bH (bN (LR (xK IK (bJ wn bA) bA) (M6 (xK (yA a.units) (bI b (bx (bJ wn bA) (bx (bJ wn bA) bC))) bA))))))) ?_
 rintro _ R ⟨r,rfl,q⟩;have:=r.den_pos;refine⟨λo=>∃x,o=[.fz (aa r),x],?_,⟨_,rfl⟩⟩;rintro _ ⟨x,rfl⟩;refine⟨λo=>∃x,o=[.fz (aa r),x],?_,⟨_,rfl⟩⟩;rintro _ ⟨x,rfl⟩;refine fe (Zs wp) ⟨_,_,rfl,?_⟩;rw[show Int.gcd r.num r.den=1 from r.reduced];exact q
def uP:ST:=λa q=>∃(u:xz)(m:Nat),a=[.lst (u.map aa),.int (m:Nat)]/\u.length=m/\m<=1000/\q (.fz (.bl true))
def NT(F:Fun K lM lM qT f G)(T:Txt K mg D)(c:ag P w K mg base 2 qU nM G5):bW P w K mg base ab 3 f G jf (am K uP):=by
 refine F.okT O1 (λd _=>bF (cG (QW.qt (g8 (cX (cN (vJ .list wn T.fJ T.M9 boot_list))) (eX (cj (qG d.units) (bY eF T.gk VY (bx wn bC)) we))))
  (bH (bN mW))
  bQ)
  (bH (bN (bY (W8 rfl) T.adG boot_all (bx (c7 (bG qT) xO xO ["_law_one"] (cI wn) (d_ (i:=0)) cC (bI c (bx wn bC))) bC))))) ?_
 rintro _ R ⟨u,m,rfl,a,g,q⟩;refine dy (by rw[ak,a,Zs rfl];rfl) ⟨by rw[ak,a];exact aL g wf,comp_map aa (λ_=>.bl true) u (λr _ N M h=>⟨r,rfl,h⟩) ⟨u.map λ_=>true,by rw[WJ];rfl,?_⟩⟩;have e:((u.map λ_=>true).all λb=>b)=true:=by simp
 rw[<- e]at q;exact q
def ic(c:Nat):Bool:=decide (97<=c)&&decide (c<=122)
def rX:xE:=(Str.ofString "abcdefghijklmnopqrstuvwxyz").cps.toList
def QN:∀i:Fin 26,dj rX i.val=some (97+i.val):=by decide +kernel
def o1{i:Int}(a:0<=i)(b:i<26):ca rX i=some (97+i.toNat):=by
 obtain⟨k,rfl⟩:=Int.eq_ofNat_of_zero_le a;exact QN ⟨k,by lia⟩
def Xl(h:n<26):ic (97+n):=by
 unfold ic;rw[Zs (show 97<=97+n by exact X9 _ _),Zs (show 97+n<=122 by lia)];rfl
def qL(x:Str):x.cps.toList.length=x.length:=Array.length_toList
def ZJ(x y:Str):(x++y).cps.toList=x.cps.toList++y.cps.toList:=by
 show(x.cps++y.cps).toList=_;rw[Array.toList_append]
def SY(x y:Str):(x++y).length=x.length+y.length:=by
 show(x.cps++y.cps).size=_;rw[Array.size_append];rfl
def ET{x:Str} : (Jk x none (some (n:Int))).cps.toList=x.cps.toList.take n:=by
 unfold Jk;have a:x.cps.toList.length=x.length:=Array.length_toList;show((x.cps.toList.drop 0).take (HT.sIx x.length x.length (some (n:Int))-0))=_;rw[HT.Fi,drop_zero,sub_zero,<- a];rw[List.take_eq_take_iff];lia
def Wv{x:Str} : (Jk x (some (n:Int)) none).cps.toList=x.cps.toList.drop n:=by
 unfold Jk;have a:x.cps.toList.length=x.length:=Array.length_toList;show((x.cps.toList.drop (HT.sIx x.length 0 (some (n:Int)))).take (x.length-HT.sIx x.length 0 (some (n:Int))))=_;rw[HT.Fi,<- a];by_cases h:n<=x.cps.toList.length
 .rw[Nat.min_eq_left h];exact lI (by rw[TW];exact aG _)
 .rw[JS (by lia:x.cps.toList.length<=n),JS wp,take_nil]
def Zm{A:List Q}{a b:Nat}(c:a<=b)(h:b<=A.length):j7 A (some (a:Int)) (some (b:Int))=(A.drop a).take (b-a):=by
 unfold j7;rw[HT.Fi,HT.Fi,Nat.min_eq_left h,Nat.min_eq_left (aL c h)]
def C1{x:Str}(h:x.cps.toList.all ic)(lo:1<=x.length)(a:x.length<=8):Wd x:=by
 unfold Wd ZV;rwa[qL,Zs lo,Zs a]
structure ik(d:Φ)(n:Nat):Prop where
 len:d.length=n
 nd:d.Nodup
 wd:∀x∈d,Wd x
def ZW{R:Nat->Str->Prop}(h:∀(i:Nat)x,d[i]?=some x->R i x)(l:d.length=n)(u:∀i j x,i<j->j<n->R i x->R j x->False):d.Nodup:=by
 unfold List.Nodup;rw[List.pairwise_iff_getElem];intro i j c a b e;exact u i j d[i] b (l ▸ a) (h i _ (aj c)) (by rw[e];exact h j _ (aj a))
def Qo{g:HG}{c:RT}{e:RE}{q:xj->Prop}(R:Nat->Str->Prop)(n:Nat)(B:∀k,k<n->∀(N:T->Prop)(M:Prop),(∀x,R k x->N (.str x))->g (.int (k:Nat)) o λw=>c w λb=>sw b (e w λy=>N (frz y)) M)(k:∀d:Φ,d.length=n->(∀(i:Nat)x,d[i]?=some x->R i x)->q (d.map T.str)):iH g c e o (rng 0 n) q:=by
 have G:∀(m a:Nat),a+m=n->∀(f:Φ),f.length=a->(∀(i:Nat)x,f[i]?=some x->R i x)->∀{q:xj->Prop},(∀d:Φ,d.length=n->(∀(i:Nat)x,d[i]?=some x->R i x)->(∃J,d=f++J/\q (J.map T.str))\/¬∃J,d=f++J)->iH g c e o ((range' a m).map λk:Nat=>.int ((0:Int)+k)) q:=by
  intro m
  induction m with
  |zero =>
   intro a H f l r q s;rcases s f wp r with⟨J,e,z⟩|z
   .have:J=[]:=by simpa using e
    rw[this]at z;exact z
   .exact absurd ⟨[],(append_nil f).symm⟩ z
  |succ m C =>
   intro a H f l r q s;rw[List.range'_succ,map_cons];refine aaG ?_;rw[Int.zero_add];refine B a wp (λt=>iH g c e o ((range' (a+1) m).map λk:Nat=>.int ((0:Int)+k)) λf=>q (t::f)) (iH g c e o ((range' (a+1) m).map λk:Nat=>.int ((0:Int)+k)) q) λx D=>?_;refine C (a+1) wp (f++[x]) (by simp[l]) (λi y h=>?_) λd p u=>?_
   .by_cases F:i<f.length
    .rw[aF F]at h;exact r i y h
    .have E:=(ao.mp h).1;rw[aA,length_singleton]at E;have:i=f.length:=by lia
     subst this;rw[aD (aG _),Nat.sub_self]at h;cases h;exact l ▸ D
   .by_cases z:∃J,d=f++[x]++J
    .obtain⟨J,e⟩:=z;refine .inl ⟨J,e,?_⟩;rcases s d p u with⟨j,A,v⟩|z
     .rw[e,WV]at A;have:=List.append_cancel_left A;rw[<- this]at v;exact v
     .exact absurd ⟨x::J,by rw[e,WV];rfl⟩ z
    .exact .inr z
 have:=G n 0 (Nat.zero_add _) [] rfl (λi x z=>by cases z) (q:=q) λd p u=>.inl ⟨d,rfl,k d p u⟩;rw[<- List.range_eq_range']at this;exact this
def rT(c:Nat)(i:Nat)(x:Str):Prop:=x.cps.toList=replicate (i+1) c
def iS(b:xE)(a:Nat)(c d:Int)(i:Nat)(x:Str):Prop:=x.cps.toList=b.take a++(97+((c+d*i)%26).toNat)::b.drop a
def X'{b:xE}{c:Nat}{d a:Int}{j:Nat}{x:Str}(f:a=1\/a=3\/a=5\/a=7\/a=9\/a=11)(k:i<j)(l:j<26)(h:iS b c d a i x)(g:iS b c d a j x):False:=by
 have e:=h.symm.trans g;have e:=List.append_cancel_left e;injection e with e _;rcases f with rfl|rfl|rfl|rfl|rfl|rfl<;>omega
def P6{c:Nat}{x:Str}(b:ic c)(a:i<8)(h:rT c i x):Wd x:=by
 have l:=qL x;rw[h,aN]at l;refine C1 ?_ wp wp;rw[h,all_eq_true];intro d hd;rwa[(XV.mp hd).2]
def Sr{b:xE}{c:Nat}{e f:Int}{x:Str}(a:b.all ic)(g:b.length<=7)(h:iS b c e f i x):Wd x:=by
 have l:=qL x;rw[h,aA,length_cons,aY,TW]at l;refine C1 ?_ wp (by omega);rw[h,all_eq_true];rw[all_eq_true]at a;intro d hd;rcases Y1.mp hd with hd|hd
 .exact a d (List.mem_of_mem_take hd)
 .rcases YU.mp hd with rfl|hd
  .exact Xl wp
  .exact a d (List.mem_of_mem_drop hd)
theorem Qc:∀(A:Φ)(a:Array Nat),(A.foldl (λa p=>a++(Str.ofString "").cps++p.cps) a).toList=a.toList++(A.map λy=>y.cps.toList).flatten
 |[],a=>by simp
 |y::A,a=>by
  have b:(Str.ofString "").cps = #[]:=by decide +kernel
  rw[foldl_cons,Qc A,b,Array.append_empty,Array.toList_append,map_cons,flatten_cons,WV]
def nf(A:Φ):(Txt.join (Str.ofString "") A).cps.toList=(A.map λy=>y.cps.toList).flatten:=by
 show((A.drop 1).foldl (λa p=>a++(Str.ofString "").cps++p.cps) (A.headD Str.empty).cps).toList=_;rw[Qc];cases A with
 |nil=>rfl
 |cons y A=>rfl
def Rl{c d:RT}{x y z:RS}{E:DT}(b:Bool)(h:∀q:Bool->Prop,q b->oo c d o q)(e:sw b (x { E with nx:=z E } o) (y { E with nx:=z E } o)):oO (y_ (oo c d) x y) z E o:=h (λk=>sw k (x { E with nx:=z E } o) (y { E with nx:=z E } o)) e
def Wz:ST:=λa q=>∃(c:Int)(n:Nat),a=[.int c,.int (n:Nat)]/\n<=26/\∀d:Φ,ik d n->q (.l1 (d.map T.str))
def fG{c:Int}(h:k<n:=by decide):ca ((mK c n).map T.int) (k:Nat)=some (.int (yT c k)):=by
 show dj ((mK c n).map T.int) k=_;rw[qz,aq,aq,Up h];rfl
def _u(F:Fun K Fv Fv BX f G)(T:Txt K mg D)(d9:ag P w K mg base 1 j6 jq oZ):bW P w K mg base ab 2 f G Af (am K Wz):=by
 refine F.okT acz (λhr _=>bF (bO 2 xP)
  (bF (bO 3 (bI d9 (bx wn (bx bA bC))))
  (bF (cG (QW.qt (Tw (cj (yA hr.units) (bL cM (bJ wP bA) bA) bA) (RB (cj CG we bA))))
  (bH (bN (c7 (bG BX) wZ wZ ["_law_k"] (fQ T.gJ (bx we bC)) (d_ (i:=0)) cC (bL cQ (bJ wP (bL cM (bJ wE bA) bA)) (bL dg wn bA)))))
  bQ)
  (bF (bO 4 (TD xP (bx (c7 (bG BX) wZ wZ ["_law_x"] (cI (pO wP (j4 bA) (j4 (bL dg bA (bL cM (bJ wP bA) bA))))) (d_ (i:=0)) cC (bJ wP (bL cM wn bA))) bC)))
  (bF (bO 5 (bL cM (bJ wP bA) bA))
  (bF (bO 6 (bJ (eG (bx bA (bx bA (bx bA (bx bA (bx bA (bx bA bC))))))) (bL cM (bJ wP bA) bA)))
  (bH (bN (c7 (bG BX) wZ wZ ["_law_k"] (fQ T.gJ (bx we bC)) (d_ (i:=0)) cC (bL dg (bL dg (pO (qv 5) Tg (j4 (qv 6))) (bJ wP (bL cM (bL dg (bJ wE bA) (bL cQ (qv 7) wn)) bA))) (pO (qv 5) (j4 (qv 6)) Tg))))))))))) ?_
 rintro _ R ⟨c,n,rfl,X,q⟩;refine⟨c,11,rfl,by decide,?_⟩;have s0:=nU c 0;have s1:=nU c 1;have H:(Str.ofString "abcdefghijklmnopqrstuvwxyz").length<=sizeLine:=aL (show _<=1000 by decide +kernel) wf;have U:(rng 0 n).length<=sizeLine:=by rw[rng,ak,WH];exact aL X wf
 dsimp only;refine Rl (decide (yT c 0%3=1)&&decide ((n:Int)<=8)) (λq y=>?_) ?_
 .refine⟨_,fG (k:=0),by decide,?_⟩;refine c4 (λh=>?_) λh=>?_
  .rw[Zs h,Bool.true_and]at y;exact y
  .rw[Zp h,Bool.false_and]at y;exact y
 .refine iq (λhb=>?_) λhb=>?_
  .simp only[and_eq_true,decide_eq_true_eq]at hb;refine⟨⟨by lia,by lia⟩,U,Qo (rT (97+(yT c 1%26).toNat)) n (λk hk N M s=>?_) λd r t=>q d ⟨r,ZW t r λi j x V Z J I=>?_,λx o=>?_⟩⟩
   .refine⟨_,fG (k:=1),by decide,H,_,o1 (Z3 _ wf) (YY _ wf),_,rfl,by lia,by lia,λz W=>s z ?_⟩;rw[show((k:Int)+1).toNat=k+1 by lia]at W;exact W
   .have:=ZH List.length (J.symm.trans I);rw[aN,aN]at this;lia
   .obtain⟨i,B⟩:=aV o;have li:=(ao.mp B).1;exact P6 (Xl wp) wp (t i x B)
  .obtain⟨m,em,Y⟩ : ∃m:Nat,yT c 1%8=m/\m<=7:=⟨(yT c 1%8).toNat,by lia,by lia⟩;have ec:j7 ((mK c 11).map L2.T.int) (some 2) (some (2+yT c 1%8))=(((mK c 11).drop 2).take m).map L2.T.int:=by
    rw[em,Fl];have:=Zm (A:=mK c 11) (a:=2) (b:=2+m) (X9 _ _) (by rw[ak,WH];lia);rw[show 2+m-2=m by exact QU _ _]at this;exact ZH (List.map L2.T.int) this
   have v:(((mK c 11).drop 2).take m).length=m:=by rw[aY,TW,ak,WH];lia
   refine⟨_,fG (k:=1),by decide,?_⟩;dsimp only[frz];show(j7 ((mK c 11).map L2.T.int) (some 2) (some (2+yT c 1%8))).length<=sizeLine/\_;rw[ec];have u:∀x∈((mK c 11).drop 2).take m,0<=x:=λx o=>by
    obtain⟨k,_,rfl⟩:=YV.mp (List.mem_of_mem_drop (List.mem_of_mem_take o));exact(nU c k).1
   generalize((mK c 11).drop 2).take m=l at v u ⊢;have e0:(Str.ofString "").length=0:=by decide +kernel
   refine⟨by rw[ak,v];exact aL Y wf,comp_map L2.T.int (λx=>.str ⟨#[97+(x%26).toNat]⟩) l (λx o N M s=>⟨by decide,H,_,o1 (Z3 _ wf) (YY _ wf),s⟩) ⟨l.map λx=>⟨#[97+(x%26).toNat]⟩,by rw[WJ];rfl,?_,?_⟩⟩
   .rw[e0,Nat.mul_zero,Nat.add_zero,WJ,show((λx:Str=>x.length) ∘ λx:Int=>(⟨#[97+(x%26).toNat]⟩ : Str))=λ_=>1 from rfl,map_const',List.sum_replicate_nat];lia
   have O:(Txt.join (Str.ofString "") (l.map λx=>(⟨#[97+(x%26).toNat]⟩ : Str))).cps.toList=l.map λx=>97+(x%26).toNat:=by
    rw[nf,WJ]
    clear v u ec
    induction l with
    |nil=>rfl
    |cons x l ih=>rw[map_cons,flatten_cons,ih];rfl
   have C:(Txt.join (Str.ofString "") (l.map λx=>(⟨#[97+(x%26).toNat]⟩ : Str))).length<=7:=by rw[<- qL,O,ak];exact aL (WG v) Y
   have Q:(l.map λx=>97+(x%26).toNat).all ic=true:=by
    rw[all_eq_true];intro g hd;obtain⟨x,o,rfl⟩:=YV.mp hd;exact Xl wp
   rw[<- O]at Q;generalize Txt.join (Str.ofString "") (l.map λx=>(⟨#[97+(x%26).toNat]⟩ : Str))=E at C Q ⊢
   clear O
   have s9:=nU c 9;have s10:=nU c 10;obtain⟨p,L,pE⟩ : ∃p:Nat,yT c 9%8=p/\p<=7:=⟨(yT c 9%8).toNat,by lia,by lia⟩;obtain⟨sv,es,hs⟩ : ∃sv:Int,ca [L2.T.int 1,L2.T.int 3,L2.T.int 5,L2.T.int 7,L2.T.int 9,L2.T.int 11] (yT c 10%6)=some (.int sv)/\(sv=1\/sv=3\/sv=5\/sv=7\/sv=9\/sv=11):=by
    obtain e|e|e|e|e|e:yT c 10%6=0\/yT c 10%6=1\/yT c 10%6=2\/yT c 10%6=3\/yT c 10%6=4\/yT c 10%6=5:=by lia
    .exact⟨1,by rw[e];rfl,by decide⟩
    .exact⟨3,by rw[e];rfl,by decide⟩
    .exact⟨5,by rw[e];rfl,by decide⟩
    .exact⟨7,by rw[e];rfl,by decide⟩
    .exact⟨9,by rw[e];rfl,by decide⟩
    .exact⟨11,by rw[e];rfl,by decide⟩
   have z7:(16:Nat)<=sizeLine:=by decide
   refine⟨_,fG (k:=9),by decide,?_⟩;dsimp only[frz];rw[L];refine⟨_,fG (k:=10),by decide,_,es,⟨by lia,by lia⟩,U,Qo (iS E.cps.toList p (yT c 0) sv) n (λk hk N M s=>?_) λd r t=>q d ⟨r,ZW t r λi j x V Z J I=>X' hs V (aR Z X) J I,λx o=>?_⟩⟩
   .have t1:(Jk E none (some (p:Int))).length<=7:=by rw[<- qL,ET,aY,qL];lia
    have t2:(Jk E (some (p:Int)) none).length<=7:=by rw[<- qL,Wv,TW,qL];exact aL (Nat.sub_le _ _) C
    have S:∀g:Nat,({ cps:=#[g] } : Str).length=1:=λ_=>rfl;refine⟨by exact aL C wf,_,fG (k:=0),⟨gP wp,gP wp⟩,by decide,H,_,o1 (Z3 _ wf) (YY _ wf),by rw[S];lia,by exact aL C wf,by rw[SY,S];lia,s _ ?_⟩;unfold iS;rw[ZJ,ZJ,ET,Wv,WV];rfl
   .obtain⟨i,B⟩:=aV o;exact Sr Q (by rwa[qL]) (t i x B)
def Yp(l:List Q)(h:Q->T){i:Int}(c:0<=i)(d:i<l.length):∃a∈l,ca (l.map h) i=some (h a):=by
 obtain⟨k,rfl⟩:=Int.eq_ofNat_of_zero_le c;have b:k<l.length:=by lia
 refine⟨l[k],aU b,?_⟩;show dj (l.map h) k=_;rw[qz,aq,aj b];rfl
def div_pos{a:Int}(f:0<b):(divInt a b).den<=b.toNat/\(divInt a b).num.natAbs<=a.natAbs:=by
 have l:=yr (t:=a) (b:=b) (c:=(Int.gcd a b:Nat)) (WP f) (by have:=pH (a:=a) (b:=b) (WP f);exact WP this) wp (XZ (pH (WP f)) f);have e:=jY l (WP f);injection e with e;injection e with g d;injection d with d _;injection g with g;injection d with d;have j:=l.lx;have i:=l.ly;have h:=l.pos;have g:a.fdiv ((Int.gcd a b:Nat):Int)=(divInt a b).num:=g;have d:b.fdiv ((Int.gcd a b:Nat):Int)=((divInt a b).den:Nat):=d;rw[g]at j;rw[d]at i h;omega
def Xk{a:Int}(d:0<=a)(h:a<b):0<=divInt a b/\divInt a b<1:=by
 have c:0<b:=by exact Int.lt_of_le_of_lt d h
 refine⟨ko d (XY c),?_⟩;have e:divInt a b=(a:Rat)/(b:Rat):=UQ a b;rw[e];have f:(0:Rat)<(b:Rat):=by exact_mod_cast c
 rw[Rat.div_lt_iff f,Rat.one_mul]
 exact_mod_cast h
structure Shr(s:Rat):Prop where
 lo:0<=s
 hi:s<1
 den:s.den<=100
structure hD(p:Rat):Prop where
 num:p.num.natAbs<=10^30
 den:p.den<=1000
def EB(i:Int):(i*if(!false)=true then 1 else 0)=i:=T1 _
def Wu:ST:=λa q=>∃c:Int,a=[.int c,.bl false]/\∀s:Rat,Shr s->q (.fz (aa s))
def ace(F:Fun K Fx Fx Q7 f G)(T:Txt K mg D)(l:ag P w K mg base 1 j6 jq oZ)(h:ag P w K mg base 2 rE oW BW):bW P w K mg base ab 3 f G yH (am K Wu):=by
 refine F.okT abQ (λ_ _=>bF (bO 2 (bI l (bx wn (bx bA bC))))
  (bF (bO 3 (bL dg bA (bL cM (bJ wa bA) (bJ (eG (bx bA (bx bA (bx bA (bx bA bC))))) (bL cQ (bL cM (bJ wa bA) bA) (oX Ry T.Pj boot_int (bx (Ks we) bC)))))))
  (bH (bN (bI h (bx (bL cM (bJ wa bA) wP) (bx wP bC))))))) ?_
 rintro _ R ⟨c,rfl,q⟩;have r:=nU c 0;have p:=nU c 1;have o:=nU c 2;refine⟨c,3,rfl,by decide,_,fG (k:=0),_,fG (k:=1),by decide,⟨gP wp,gP wf⟩,?_⟩;obtain⟨d,hd,j⟩:=Yp [4,6,10,100] L2.T.int (i:=yT c 1%4) (Z3 _ wf) (by show yT c 1%4<4;exact YY _ wf);have g:0<d/\d<=100:=by simp at hd;lia
 refine⟨_,(ZH (ca ([4,6,10,100].map L2.T.int)) (EB _)).trans j,g.1,?_⟩;have e:0<1+yT c 0%d/\1+yT c 0%d<=100:=by
  have:=Z3 (yT c 0) (show d≠0 by lia);have:=YY (yT c 0) g.1;lia
 refine⟨_,fG (k:=2),e.1,_,_,rfl,e.1,gP (by omega),q _ ?_⟩;generalize 1+yT c 0%d=b at e ⊢;have n:=Z3 (yT c 2) (show b≠0 by lia);have m:=YY (yT c 2) e.1;obtain⟨x,y⟩:=Xk n m;exact⟨x,y,by have:=(div_pos (a:=yT c 2%b) e.1).1;lia⟩
def D2:ST:=λa q=>∃c x y:Int,a=[.int c,.int x,.int y,.bl false]/\(0<=x/\x<2000000000)/\(0<=y/\y<2000000000)/\∀p:Rat,hD p->q (.fz (aa p))
def Po(F:Fun K TX TX py f G)(T:Txt K mg D)(i:ag P w K mg base 2 rE oW BW):bW P w K mg base ab 3 f G Lr (am K D2):=by
 refine F.okT Sz (λj _=>bF (cG (QW.qt (g8 (cN wP) (eX (cj Cy (bL cM we bA) bA))))
  (bH (bN (dB (bx (bL qw (bL cM wa bA) bA) (bx bA bC)))))
  bQ)
  (bF (cG (cj Cy (bL cM we bA) bA)
  (bH (bN (bI i (bx (bL qw (bL cM wa bA) bA) (bx (bL dg bA (bL cM (bL o7 we bA) bA)) bC)))))
  bQ)
  (bF (cG (cj (yA j.units) (bL cM we bA) bA)
  (bH (bN (dB (bx (bL qw (bL cM wn bA) bA) (bx bA bC)))))
  bQ)
  (bH (bN (bI i (bx (bL qw (bL cM (bL dg (bL Fu wn bA) wa) (bL dg (bL cQ bA (bL Xr bA bA)) bA)) (bL Xr bA bA)) (bx (bL dg bA (bL cM (bL o7 we bA) bA)) bC)))))))) ?_
 rintro _ R ⟨c,x,y,rfl,n,m,q⟩;have g:Bd (10^30):=Y3 (aG _) (by decide +kernel);have lo:∀a b:Int,0<b->a.natAbs<=10^30->b<=1000->R (.fz (aa (divInt a b))):=λa b l k o=>by
  obtain⟨x,y⟩:=div_pos (a:=a) l;exact q _ ⟨aL y k,by lia⟩
 have d:∀a:Int,a.natAbs<=10^30->R (.fz (.tup [.int a,.int 1])):=λa h=>q (a:Rat) ⟨h,show(1:Nat)<=1000 by decide⟩;have p:x.fdiv 8=x/8:=lL _ wf;refine⟨by decide,c4 (λh=>⟨by decide,d _ wp⟩) λh=>⟨by decide,c4 (λh=>⟨by decide,⟨by decide,gP wf⟩,by decide,?_⟩) λh=>⟨by decide,c4 (λh=>⟨by decide,d _ wp⟩) λh=>?_⟩⟩⟩
 .exact⟨_,_,rfl,by lia,gP wp,lo _ _ wp wp wp⟩
 .refine⟨.inr (by constructor<;>decide),⟨by decide,by decide,by decide⟩,⟨gP wf,g⟩,by decide,⟨by decide,by decide,by decide⟩,⟨by decide,gP wf⟩,by decide,?_⟩;exact⟨_,_,rfl,by lia,gP wp,lo _ _ wp (by
   have e:(10:Int)^Int.toNat 30=10^30:=rfl;rw[e];lia) wp⟩
def ee:ST:=λa q=>∃c:Int,a=[.int c]/\∀n:Nat,n<=6->q (.fz (.int (n:Nat)))
def _f(F:Fun K J7 J7 Xc f G)(T:Txt K mg D)(e:ag P w K mg base 1 j6 jq oZ):bW P w K mg base ab 2 f G GK (am K ee):=by
 refine F.okT _h (λa _=>bF (bO 1 (bI e (bx wn (bx bA bC))))
  (bF (cG (cj (yA a.units) (bL cM (bJ we bA) bA) bA)
  (bH (bN bA))
  bQ)
  (bF (cG (cj (yA a.units) (bL cM (bJ we bA) bA) bA)
  (bH (bN (bL dg bA (bL cM (bJ we bA) bA))))
  bQ)
  (bH (bN (bL dg bA (bL cM (bJ we bA) bA))))))) ?_
 rintro _ R ⟨c,rfl,q⟩;have d:=nU c 1;have b:0<=yT c 1:=d.1;refine⟨c,2,rfl,by decide,_,fG (k:=0),by decide,c4 (λh=>q 0 wf) λh=>⟨_,fG (k:=0),by decide,c4 (λh=>⟨_,fG (k:=1),by decide,?_⟩) λh=>⟨_,fG (k:=1),by decide,?_⟩⟩⟩
 .have:=q (5+yT c 1%2).toNat wp;rw[show(((5+yT c 1%2).toNat:Nat):Int)=5+yT c 1%2 by lia]at this;exact this
 .have:=q (1+yT c 1%4).toNat wp;rw[show(((1+yT c 1%4).toNat:Nat):Int)=1+yT c 1%4 by lia]at this;exact this
structure LD where
 sort:Nat
 pay:Rat
 prs:zI
abbrev xk:=List (List LD)
abbrev dc(d:LD):T:=.tup [.int (d.sort:Nat),aa d.pay,.lst (d.prs.map dz)]
structure LDk(m:Nat)(d:LD):Prop where
 sort:d.sort<4
 pay:hD d.pay
 few:d.prs.length<=4
 lt:∀p∈d.prs,p.1<m
 nn:∀p∈d.prs,0<=p.2
 one:FJ (d.prs.map (·.2))=1
 dn:∃q:Nat,0<q/\q<=4000/\∀p∈d.prs,p.2.den ∣ q
 s0:d.sort=0->∃a,d.prs=[(a,1)]
 s1:d.sort=1->∃a b x,d.prs=[(a,x),(b,1-x)]
 s2:d.sort=2->∃u:xE,d.prs=u.map λr=>(r,mkRat 1 u.length)
def Uf(l:List Q) : j7 l none (some (n:Int))=l.take n:=by
 unfold j7;show(l.drop 0).take (HT.sIx l.length l.length (some (n:Int))-0)=_;rw[HT.Fi,drop_zero,sub_zero];rw[List.take_eq_take_iff];lia
def Km{a:Int}(g:0<b):(divInt a b).den ∣ b.toNat:=by
 have l:=yr (t:=a) (b:=b) (c:=(Int.gcd a b:Nat)) (WP g) (by have:=pH (a:=a) (b:=b) (WP g);exact WP this) wp (XZ (pH (WP g)) g);have e:=jY l (WP g);injection e with e;injection e with _ f;injection f with f _;injection f with f;have f:b.fdiv ((Int.gcd a b:Nat):Int)=((divInt a b).den:Nat):=f;have d:((Int.gcd a b:Nat):Int) ∣ b:=QR a b;rw[Int.fdiv_eq_ediv_of_dvd d]at f;obtain⟨x,h⟩:=d;have i:=pH (a:=a) (b:=b) (WP g);rw[Int.ediv_eq_of_eq_mul_right (WP i) h]at f;exact Int.natCast_dvd_natCast.mp ⟨(Int.gcd a b:Nat),by rwa[<- f,Int.toNat_of_nonneg (XY g),Int.mul_comm]⟩
theorem E3{S:Int}(a:S≠0):∀j:xm,FJ (j.map λw=>divInt w S)=divInt j.sum S
 |[]=>by show(0:Rat)=divInt 0 S;rw[QP]
 |w::j=>by
  show divInt w S+FJ (j.map λw=>divInt w S)=divInt (w+j.sum) S;rw[E3 a j,ke _ _ a a];refine(QQ (qx a a) a).mpr ?_
  grind
theorem Wk{n:Nat}(h:0<n):∀k:Nat,FJ (replicate k (mkRat 1 n))=mkRat k n
 |0=>by show(0:Rat)=mkRat 0 n;rw[Rat.zero_mkRat]
 |k+1=>by
  rw[replicate_succ];show mkRat 1 n+FJ (replicate k (mkRat 1 n))=_;rw[Wk h k,Rat.mkRat_add_mkRat _ _ (UK h) (UK h),Rat.mkRat_eq_iff (Nat.mul_ne_zero (UK h) (UK h)) (UK h)]
  push_cast
  grind
def YO(h:0<n):mkRat n n=1:=by
 rw[show(1:Rat)=mkRat 1 1 from rfl,Rat.mkRat_eq_iff (UK h) (Nat.succ_ne_zero _)];lia
def one_sub{a:Int}(c:b≠0):1-divInt a b=divInt (b-a) b:=by
 rw[show(1:Rat)=divInt 1 1 from rfl,Rat.divInt_sub_divInt _ _ wf c,JJ,T1]
def W6(x:Rat):1-x=⟨(x.den:Int)-x.num,x.den,x.den_nz,by
  have:=x.reduced;show Nat.Coprime ((x.den:Int)-x.num).natAbs x.den;have h:Int.gcd ((x.den:Int)-x.num) (x.den:Int)=1:=by
   rw[Int.gcd_self_sub_left];exact this
  exact h⟩:=by
 rw[Rat.mk_eq_divInt,<- one_sub (kZ x),rd]
def abO(x:Rat):aa (1-x)=.tup [.int ((x.den:Int)-x.num),.int x.den]:=by rw[W6]
def Qk(x:Rat):(1-x).den=x.den:=by rw[W6]
def LDk.sure{a:Nat}{p:Rat}(c:a<m)(b:hD p):LDk m ⟨0,p,[(a,1)]⟩ :=
 ⟨Nat.zero_lt_succ _,b,TZ rfl,by simp[c],by simp;decide,by simp[FJ];exact Rat.add_zero 1,⟨1,by decide,by decide,by simp⟩,λ_=>⟨_,rfl⟩,(λz=>by cases z),(λz=>by cases z)⟩
def LDk.toss{a b q:Nat}{p x:Rat}(i:a<m)(h:b<m)(g:hD p)(d:0<=x)(c:0<=1-x)(f:0<q)(e:q<=4000)(hd:x.den ∣ q):LDk m ⟨1,p,[(a,x),(b,1-x)]⟩ :=
 ⟨TZ rfl,g,TZ rfl,by simp[i,h],by simp[d,c],by simp[FJ];grind,⟨q,f,e,by simp[hd,Qk]⟩,(λz=>by cases z),λ_=>⟨_,_,_,rfl⟩,(λz=>by cases z)⟩
def SW(h:0<n):(mkRat 1 n).den=n:=by
 have e:=XC h;injection e with e;injection e with _ e;injection e with e _;injection e with e;lia
def LDk.even{p:Rat}{u:xE}(b:0<u.length)(c:u.length<=4)(d:∀r∈u,r<m)(e:hD p):LDk m ⟨2,p,u.map λr=>(r,mkRat 1 u.length)⟩:=by
 have nn:(0:Rat)<=mkRat 1 u.length:=by rw[<- Rat.divInt_ofNat];exact ko wf (WZ _)
 refine⟨TZ rfl,e,by rw[ak];exact c,λx a=>?_,λx a=>?_,?_,⟨u.length,b,by exact aL c wf,λx a=>?_⟩,(λz=>by cases z),(λz=>by cases z),λ_=>⟨u,rfl⟩⟩
 .obtain⟨r,h,rfl⟩:=YV.mp a;exact d r h
 .obtain⟨r,h,rfl⟩:=YV.mp a;exact nn
 .rw[WJ,show((λx:Nat×Rat=>x.2) ∘ λr=>(r,mkRat 1 u.length))=λ_=>mkRat 1 u.length from rfl,map_const',Wk b,YO b]
 .obtain⟨r,h,rfl⟩:=YV.mp a;rw[SW b];exact Qr _
def LDk.mix{p:Rat}{u:xE}{j:xm}(i:j.length<=4)(f:∀r∈u,r<m)(hw:∀w∈j,0<=w)(le:j.length<=u.length)(s0:0<j.sum)(s1:j.sum<=4000)(g:hD p):LDk m ⟨3,p,(u.zip j).map λx=>(x.1,divInt x.2 j.sum)⟩:=by
 have d:(u.zip j).map (λx=>x.2)=j:=List.map_snd_zip le;refine⟨TZ rfl,g,by rw[ak,VZ];lia,λx c=>?_,λx c=>?_,?_,⟨j.sum.toNat,by lia,by lia,λx c=>?_⟩,(λz=>by cases z),(λz=>by cases z),(λz=>by cases z)⟩
 .obtain⟨r,h,rfl⟩:=YV.mp c;exact f _ (VX h).1
 .obtain⟨r,h,rfl⟩:=YV.mp c;exact ko (hw _ (VX h).2) (XY s0)
 .rw[WJ,show((λx:Nat×Rat=>x.2) ∘ λx:Nat×Int=>(x.1,divInt x.2 j.sum))=(λw=>divInt w j.sum) ∘ λx:Nat×Int=>x.2 from rfl,<- WJ,d,E3 (WP s0)];have e:=one_sub (a:=j.sum) (b:=j.sum) (WP s0);rw[Int.sub_self,QP]at e
  grind
 .obtain⟨r,h,rfl⟩:=YV.mp c;exact Km s0
theorem DL:∀{j:xm},(∀w∈j,0<=w)->0<=j.sum
 |[],_=>by decide
 |w::j,h=>by
  have:=h w (aO ..);have:=DL (j:=j) λx a=>h x (aJ _ a);rw[sum_cons];lia
theorem EI{b:Int} : ∀{j:xm},(∀w∈j,w<=b)->j.sum<=b*j.length
 |[],_=>by simp
 |w::j,h=>by
  have:=h w (aO ..);have:=EI (j:=j) λx a=>h x (aJ _ a);rw[sum_cons,length_cons];have:b*((j.length+1:Nat):Int)=b*j.length+b:=by grind
  lia
def E8:ST:=λa q=>∃(c:Int)(m:Nat),a=[.int c,.int (m:Nat),.bl false]/\0<m/\m<=1000/\∀(r:Nat)(d:LD),r<m->LDk m d->q (.fz (.tup [.int (r:Nat),dc d]))
def XA(F:Fun K J1 J1 Dv f G)(T:Txt K mg D)(d9:ag P w K mg base 1 j6 jq oZ)(jN:ag P w K mg base 2 rE oW BW)(qA:ag P w K mg base 3 TX Lr D2):bW P w K mg base ab 4 f G Ew (am K E8):=by
 refine F.okT RW (λE _=>bF (bO 3 (bI d9 (bx wn (bx bA bC))))
  (bF (bO 4 (c7 (bG Dv) vQ vQ ["_law_x"] (cI (pO wP (j4 bA) (j4 bA))) (d_ (i:=0)) cC (bL cM wn wa)))
  (bF (bO 5 (bL cM (bJ wP bA) bA))
  (bF (bO 6 (fv.out (EU (iy (G4 (iy (Il (bJ wE bA)) (iy (G4 (iy ZX (iy ZX vV))) vV))) vV))))
  (bF (cG (cj (yA E.units) (qv 5) bA)
  (bF (bO 7 (bL dg bA (bL cM (bJ wP bA) bA)))
  (bF (bO 8 (bI jN (bx (bL cM (bJ wP bA) (bL dg (qv 7) bA)) (bx (qv 7) bC))))
  (bH (bO 6 (fv.out (EU (iy (G4 (iy (Il (bJ wE bA)) (iy (ON 8) vV))) (iy (G4 (iy (Il (bJ wE bA)) (iy (G4 (iy (PV qw (Il (bJ (qv 8) bA)) (Il (bJ (qv 8) bA))) (iy (Il (bJ (qv 8) bA)) vV))) vV))) vV))))))))
  bQ)
  (bF (cG (cj (yA E.units) (qv 5) bA)
  (bF (bO 4 (pO wE Tg (j4 (bL dg bA (bL cM (bJ wP bA) bA)))))
  (bH (qP (bG Dv) vQ vQ ["_law_room"] (cI wE) (d_ (i:=0)) cC (dB (bx wn (bx (dB (bx bA (bx (bY eF T.gk VY (bx (qv 5) bC)) bC))) bC))) (mD (i:=6) RW.nd rfl (Or.inl rfl)))))
  bQ)
  (bF (cG (cj (yA E.units) (qv 5) bA)
  (bF (kY 9 (c7 (bG Dv) vQ vQ ["_law_x"] (cI (pO wP (j4 bA) (j4 (bL dg bA (bL cM (bJ wP bA) bA))))) (d_ (i:=0)) cC (bL cM wn (bJ (eG (bx bA (bx bA (bx bA (bx bA bC))))) (bL cQ (bL cM (bJ wE bA) bA) (oX Ry T.Pj boot_int (bx (Ks wP) bC)))))))
  (bF (Hy 9 (bL dg (uG 9 (ux bA)) bA) (ux bA))
  (bH (Ul 9 (qP (bG Dv) vQ vQ ["_law_k"] (fQ T.gJ (bx (bY eF T.gk VY (bx (qv 9) bC)) bC)) (d_ (i:=0)) cC (dB (bx (bJ (qv 5) wn) (bx (bI jN (bx (bJ (qv 10) wn) (bx (bY (XM rfl) T.ab3 boot_sum (bx (qv 10) bC)) bC))) bC))) (mD (i:=6) RW.nd rfl (Or.inl rfl)))))))
  bQ)
  (bH (bN (dB (bx (bL cM (bJ wP bA) we) (bx (dB (bx (qv 5) (bx (bI qA (bx wn (bx (bJ wP bA) (bx (bJ wP bA) (bx wa bC))))) (bx (qv 6) bC)))) bC)))))))))))) ?_
 rintro _ R ⟨c,m,rfl,m0,m1,q⟩;have W:(0:Int)<(m:Nat):=by lia
 have y:∀k,0<=yT c k/\yT c k<2000000000:=nU c;obtain⟨h,O,U⟩ : ∃h:Nat->Nat,(∀k,h k<m)/\∀k,yT c k%(m:Nat)=(h k:Nat):=⟨λk=>(yT c k%(m:Nat)).toNat,λk=>by
  have:=YY (yT c k) W;have:=Z3 (yT c k) (show((m:Nat):Int)≠0 by exact WP W);show(yT c k%(m:Nat)).toNat<m;lia,λk=>by
  have:=Z3 (yT c k) (show((m:Nat):Int)≠0 by exact WP W);show _=((yT c k%(m:Nat)).toNat:Int);lia⟩
 obtain⟨t,eso,hso⟩ : ∃t:Nat,yT c 6%4=(t:Nat)/\t<4:=⟨(yT c 6%4).toNat,by have:=y 6;lia,by have:=y 6;lia⟩;refine F6 (λo=>∃(x3 x6 Z x8:OT)(B:zI),o=[.fz (.int c),.fz (.int (m:Nat)),.fz (.bl false),.fz (.lst ((mK c 14).map L2.T.int)),x3,.fz (.int (t:Nat)),.fz (.lst (B.map dz)),x6,Z,x8]/\∀p,hD p->LDk m ⟨t,p,B⟩) ?_ λY go=>?_
 .rintro _ ⟨x3,x6,Z,x8,B,rfl,s⟩;refine⟨_,fG (k:=13),W,_,fG (k:=0),_,fG (k:=1),c,_,_,rfl,y 0,y 1,λp C=>?_⟩;have:=q (h 13) ⟨t,p,B⟩ (O 13) (s p C);rw[<- U]at this;exact this
 .refine⟨c,14,rfl,by decide,?_⟩;have ec:j7 ((mK c 14).map L2.T.int) (some 2) (some 6)=[2,3,4,5].map (λk=>L2.T.int (yT c k)):=rfl;show(j7 ((mK c 14).map L2.T.int) (some 2) (some 6)).length<=sizeLine/\iH _ _ _ _ (j7 ((mK c 14).map L2.T.int) (some 2) (some 6)) _;rw[ec];refine⟨show 4<=sizeLine by decide,comp_map (λk=>L2.T.int (yT c k)) (λk=>.int (h k:Nat)) [2,3,4,5] (λk _ N M H=>⟨W,by rwa[U]⟩) ⟨_,fG (k:=6),by decide,?_⟩⟩;dsimp only[frz];rw[eso];refine⟨_,rfl,?_⟩;obtain rfl|rfl|rfl|rfl:t=0\/t=1\/t=2\/t=3:=by lia
  .exact go _ ⟨_,_,_,_,[(h 2,1)],rfl,λp C=>.sure (O 2) C⟩
  .have x8:=y 8;have x9:=y 9;refine⟨_,fG (k:=8),by decide,_,fG (k:=9),by lia,_,_,rfl,by lia,gP wp,_,rfl,_,rfl,?_⟩;obtain⟨b,eb,X,b1⟩ : ∃b:Int,1+yT c 8%6=b/\0<b/\b<=6:=⟨_,rfl,by lia,by lia⟩;rw[eb];have a0:=Z3 (yT c 9) (show b+1≠0 by lia);have a1:=YY (yT c 9) (show 0<b+1 by exact Int.lt_trans X (Int.lt_succ _));generalize yT c 9%(b+1)=a at a0 a1 ⊢;have nn:0<=divInt a b:=ko a0 (XY X);have l1:0<=1-divInt a b:=by rw[one_sub (WP X)];exact ko (by omega) (XY X)
   have dd:=Km (a:=a) X;generalize divInt a b=x at nn l1 dd ⊢;refine go _ ⟨.fz (.lst ([2,3,4,5].map λk=>L2.T.int (h k:Nat))),.fz (.int b),.fz (aa x),.und,[(h 2,x),(h 3,1-x)],?_,λp C=>.toss (O 2) (O 3) C nn l1 (show 0<b.toNat by lia) wp dd⟩;rw[show[(h 2,x),(h 3,1-x)].map dz=[.tup [.int (h 2:Nat),aa x],.tup [.int (h 3:Nat),aa (1-x)]]from rfl,abO]
   rfl
  .have Z:=y 7;obtain⟨n,en,n0,L⟩ : ∃n:Nat,1+yT c 7%4=(n:Nat)/\0<n/\n<=4:=⟨(1+yT c 7%4).toNat,by lia,by lia,by lia⟩;refine⟨_,fG (k:=7),by decide,?_⟩;show(j7 ([2,3,4,5].map λk=>L2.T.int (h k:Nat)) none (some (1+yT c 7%4))).length<=sizeLine/\iH _ _ _ _ (j7 ([2,3,4,5].map λk=>L2.T.int (h k:Nat)) none (some (1+yT c 7%4))) _;have ec2:j7 ([2,3,4,5].map λk=>L2.T.int (h k:Nat)) none (some (1+yT c 7%4))=(([2,3,4,5].map h).take n).map λr:Nat=>L2.T.int (r:Nat):=by
    rw[en,Uf,map_take,WJ]
    rfl
   have rl:(([2,3,4,5].map h).take n).length=n:=by rw[aY];show min n 4=n;lia
   have V:∀r∈([2,3,4,5].map h).take n,r<m:=λr E=>by
    obtain⟨k,_,rfl⟩:=YV.mp (List.mem_of_mem_take E);exact O k
   rw[ec2];generalize([2,3,4,5].map h).take n=u at rl V ⊢;have r0:0<u.length:=by lia
   have e2:(u.map λr=>(r,mkRat 1 u.length)).map dz=u.map λr=>dz (r,mkRat 1 u.length):=by rw[WJ];rfl
   refine⟨by rw[ak];exact aL (show _<=4 by exact aL (WG rl) L) wf,comp_map (λr:Nat=>L2.T.int (r:Nat)) (λr=>dz (r,mkRat 1 u.length)) u (λr E N M H=>?_) (go _ ⟨.fz (.lst (u.map λr:Nat=>L2.T.int (r:Nat))),.und,.und,.und,u.map λr=>(r,mkRat 1 u.length),by rw[e2];rfl,λp C=>.even r0 (aL (WG rl) L) V C⟩)⟩;rw[show dz (r,mkRat 1 u.length)=.tup [.int (r:Nat),aa (mkRat 1 u.length)]from rfl,XC r0,<- ak (f:=λr:Nat=>L2.T.int (r:Nat))]at H;exact H
  .have Z:=y 7;have x12:=y 12;obtain⟨n,en,n0,L⟩ : ∃n:Nat,9+yT c 7%4=((8+n:Nat):Int)/\0<n/\n<=4:=⟨(1+yT c 7%4).toNat,by lia,by lia,by lia⟩;refine⟨_,fG (k:=7),by decide,?_⟩;show(j7 ((mK c 14).map L2.T.int) (some 8) (some (9+yT c 7%4))).length<=sizeLine/\iH _ _ _ _ (j7 ((mK c 14).map L2.T.int) (some 8) (some (9+yT c 7%4))) _;have ec3:j7 ((mK c 14).map L2.T.int) (some 8) (some (9+yT c 7%4))=(((mK c 14).drop 8).take n).map L2.T.int:=by
    rw[en,Fl];have:=Zm (A:=mK c 14) (a:=8) (b:=8+n) (X9 _ _) (by rw[ak,WH];lia);rw[show 8+n-8=n by exact QU _ _]at this;exact ZH (List.map L2.T.int) this
   have ul:(((mK c 14).drop 8).take n).length=n:=by rw[aY,TW,ak,WH];lia
   rw[ec3];generalize((mK c 14).drop 8).take n=l at ul ⊢;obtain⟨d,hd,ed⟩:=Yp [3,3,3,1000] L2.T.int (i:=yT c 12%4) (Z3 _ wf) (by show yT c 12%4<4;exact YY _ wf);have d0:0<d/\d<=1000:=by simp at hd;lia
   refine⟨by rw[ak];exact aL (show _<=4 by exact aL (WG ul) L) wf,comp_map L2.T.int (λx=>L2.T.int (x%d)) l (λx hx N M H=>⟨_,fG (k:=12),by decide,⟨gP wp,gP wf⟩,_,(ZH (ca ([3,3,3,1000].map L2.T.int)) (EB _)).trans ed,d0.1,H⟩) ?_⟩;have em:l.map (λx=>L2.T.int (x%d))=(l.map (· % d)).map L2.T.int:=by rw[WJ];rfl
   rw[em];have wl:(l.map (· % d)).length=n:=by rwa[ak]
   have Q:∀w∈l.map (· % d),0<=w/\w<1000:=λw hw=>by
    obtain⟨x,_,rfl⟩:=YV.mp hw;have:=Z3 x (show d≠0 by lia);have:=YY x d0.1;lia
   generalize l.map (· % d)=j at wl Q ⊢;obtain⟨J,v,rfl⟩ : ∃J v,j=J++[v]:=by
    rcases List.eq_nil_or_concat j with rfl|⟨J,v,e⟩
    .cases wl;cases n0
    .exact⟨J,v,by rw[e,List.concat_eq_append]⟩
   rw[aA,length_singleton]at wl;have ixl:ca ((J++[v]).map L2.T.int) (-1)=some (.int v):=by
    show dj ((J++[v]).map L2.T.int).reverse 0=_;rw[bf,List.reverse_append]
    rfl
   have ixn:c6 ((J++[v]).map L2.T.int).length (-1)=some J.length:=by
    unfold c6;rw[ak,aA,length_singleton];rw[ZZ wf,ZY wp]
    congr 1
    lia
   refine⟨_,ixl,_,ixn,?_⟩;have es:((J++[v]).map L2.T.int).set J.length (.int (v+1))=(J++[v+1]).map L2.T.int:=by
    rw[bf,bf,List.set_append_right _ _ (by rw[ak];exact aG _),ak,Nat.sub_self]
    rfl
   dsimp only[frz];rw[es];have mw:(J++[v+1]).length=n:=by rwa[aA,length_singleton]
   have mr:∀w∈J++[v+1],0<=w/\w<=1000:=λw hw=>by
    rcases Y1.mp hw with z|z
    .have:=Q w (U2 _ z);lia
    .have:=Q v (aP _ (YR.mpr rfl));rw[YR.mp z];lia
   have s0:0<(J++[v+1]).sum:=by
    have:0<=J.sum:=DL λw hw=>(Q w (U2 _ hw)).1;have:=(Q v (aP _ (YR.mpr rfl))).1;rw[List.sum_append];show 0<J.sum+(v+1+0);lia
   have s1:(J++[v+1]).sum<=1000*(J++[v+1]).length:=EI λw hw=>(mr w hw).2;generalize J++[v+1]=l at mw mr s0 s1 ⊢;have S:(l.map L2.T.int).length=l.length:=ak ..;have r4:∀k,k<4->([2,3,4,5].map h)[k]?=some (h (k+2)):=λk s=>by
    obtain rfl|rfl|rfl|rfl:k=0\/k=1\/k=2\/k=3:=by lia
    all_goals rfl
   have z:∀k(s:k<l.length),((([2,3,4,5].map h).zip l).map λx=>(x.1,divInt x.2 l.sum))[k]?=some (h (k+2),divInt (l.getD k 0) l.sum):=λk s=>by
    rw[aq,List.getElem?_zip_eq_some (z:=(h (k+2),l.getD k 0)) |>.mpr ⟨r4 k wp,by rw[au,aj s];rfl⟩]
    rfl
   have ep:(range (l.map L2.T.int).length).map (λk=>dz (h (k+2),divInt (l.getD k 0) l.sum))=((([2,3,4,5].map h).zip l).map λx=>(x.1,divInt x.2 l.sum)).map dz:=by
    refine List.ext_getElem? λk=>?_;rw[S];by_cases s:k<l.length
    .rw[aq,Up s,aq,z k s]
     rfl
    .rw[aM (by rw[ak,WH];exact VS s),aM (by rw[ak,ak,VZ];omega)]
   refine⟨⟨by lia,by lia⟩,by rw[rng,ak,WH];exact aL (show _<=4 by lia) wf,Sw (λk=>dz (h (k+2),divInt (l.getD k 0) l.sum)) (l.map L2.T.int).length (λk s N M H=>?_) (go _ ⟨.fz (.lst ([2,3,4,5].map λk=>L2.T.int (h k:Nat))),.und,.und,.fz (.lst (l.map L2.T.int)),(([2,3,4,5].map h).zip l).map λx=>(x.1,divInt x.2 l.sum),by rw[ep];rfl,λp C=>LDk.mix (u:=[2,3,4,5].map h) (aL (WG mw) L) (λr E=>?_) (λw hw=>(mr w hw).1) (show l.length<=4 by exact aL (WG mw) L) s0 wp C⟩)⟩
   .rw[S]at s;have ek:l[k]?=some (l.getD k 0):=by rw[au,aj s];rfl
    have I:=r4 k wp;rw[aq]at I;refine⟨.int (h (k+2):Nat),?_,_,ju ek,l,rfl,_,_,rfl,s0,gP wp,H⟩;show dj _ k=_;rw[qz,aq];cases z2:([2,3,4,5] : xE)[k]? with
    |none=>rw[z2]at I;cases I
    |some g=>rw[z2]at I;injection I with I;show some (L2.T.int (h g:Nat))=_;rw[show h g=h (k+2)from I]
   .obtain⟨k,_,rfl⟩:=YV.mp E;exact O k
structure DSk(m X:Nat)(t:xk):Prop where
 len:t.length=m
 few:∀ds∈t,ds.length<=X
 ok:∀ds∈t,∀d∈ds,LDk m d
abbrev f5(t:xk):wb:=t.map λds=>ds.map dc
abbrev lz(t:xk):T:=.lst (t.map λds=>.lst (ds.map dc))
def _c(t:xk):frz (.l2 (f5 t))=lz t:=by
 show L2.T.lst ((t.map λa=>a.map dc).map L2.T.lst)=_;rw[WJ]
 rfl
def DSk.add{t:xk}(h:DSk m X t){a:List LD}{d:LD}(e:t[k]?=some a)(lt:a.length<X)(hd:LDk m d):DSk m X (t.set k (a++[d])):=by
 refine⟨by rw[VT,h.len],λx b=>?_,λx b y c=>?_⟩
 .rcases List.mem_or_eq_of_mem_set b with z|rfl
  .exact h.few x z
  .rw[aA,length_singleton];exact lt
 .rcases List.mem_or_eq_of_mem_set b with z|rfl
  .exact h.ok x z y c
  .rcases Y1.mp c with z|z
   .exact h.ok a (aC e) y z
   .rw[YR.mp z];exact hd
def Pl{t:xk}{r:Nat}{a:List LD}(e:t[r]?=some a):ca ((f5 t).map L2.T.lst) (r:Nat)=some (.lst (a.map dc)):=by
 show dj ((f5 t).map L2.T.lst) r=_;rw[qz,aq,aq,e];rfl
def U5:ST:=λb q=>∃(d:xm)(a m:Nat),b=[k3 d,.int (a:Nat),.int (m:Nat),.bl false]/\d.length<=100/\m<=300/\∀t:xk,DSk m 3 t->q (.l2 (f5 t))
def adN(F:Fun K Gr Gr JX f G)(T:Txt K mg D)(B:ag P w K mg base 1 Er Bu Rn)(S:ag P w K mg base 1 j6 jq oZ)(V:ag P w K mg base 4 J1 Ew E8):bW P w K mg base ab 5 f G zy (am K U5):=by
 refine F.okT VF (λ_ _=>bF (UI (bG JX) Rb Rb ["_law_k"] (fQ T.gJ (bx wa bC)) (d_ (i:=0)) cC (eG bC) (mD (i:=4) VF.nd rfl (Or.inl rfl)))
  (bF (cG (cj IK wa bA)
  (bF (bO 5 (bI B (bx wn (bx we bC))))
  (bF (bO 6 (bI S (bx (qv 5) (bx (bL cM (bL cM (bL Fu (qv 5) bA) bA) (bL dg (bL cQ bA wa) bA)) bC))))
  (bH (eV (cI (bL dg (qv 6) (pO wn (j4 (bL dg we bA)) (j4 (bL dg we bA))))) (cB (n:=99) 7)
  (bF (Q8 (bI V (bx (qv 7) (bx wa (bx wP bC)))) (fH (n:=2) (bT (cB (n:=99) 8) (bT (cB (n:=99) 9) dN))))
  (bH (cG (Xi 4 (cj Cy (bY eF T.gk VY (bx (bJ wE (qv 8)) bC)) (bL qw bA (oX Ry T.Pj boot_int (bx wP bC)))))
  (bH (ZB 4 (qv 8) (qv 9)))
  bQ)))))))
  bQ)
  (bH (mG 4)))) ?_
 rintro _ R ⟨d,a,m,rfl,E,v,q⟩;have Q:(range m).map (λ_=>([] : List L2.T))=f5 (replicate m []):=by
  unfold f5;rw[List.map_replicate,map_const',WH]
  rfl
 have A:DSk m 3 (replicate m []):=⟨aN,λx s=>by rw[(XV.mp s).2];exact aZ _,λx s y z=>by rw[(XV.mp s).2]at z;cases z⟩;refine⟨⟨by lia,by lia⟩,by rw[rng,ak,WH];exact aL v wf,Vr (λ_=>[]) m (λk Y N M J=>J) ?_⟩;rw[Q];refine c4 (λI=>?_) λI=>q _ A;refine⟨d,a,rfl,E,?_⟩;dsimp only[frz];generalize d.getD a 0=e;have g:(0:Int)<3*(m:Nat)+1:=by lia
 obtain⟨n,L,W⟩ : ∃n:Nat,e*48271%104729%(3*(m:Nat)+1)=(n:Nat)/\n<=3*m:=⟨(e*48271%104729%(3*(m:Nat)+1)).toNat,by
  have:=Z3 (e*48271%104729) (show(3*(m:Nat)+1:Int)≠0 by exact WP g);lia,by
  have:=YY (e*48271%104729) g;have:=Z3 (e*48271%104729) (show(3*(m:Nat)+1:Int)≠0 by exact WP g);lia⟩
 refine⟨.inr (by constructor<;>decide),by decide,⟨gP wf,gP wp⟩,g,e,n,by rw[L];rfl,by lia,?_⟩;have O:(mK e n).map L2.T.int++j7 (d.map L2.T.int) (some ((a:Nat)+1)) (some ((a:Nat)+25))=(mK e n++j7 d (some ((a:Nat)+1)) (some ((a:Nat)+25))).map L2.T.int:=by rw[Fl,bf]
 have Z:(j7 d (some ((a:Nat)+1)) (some ((a:Nat)+25))).length<=100:=by
  unfold j7;rw[aY,TW];lia
 show((mK e n).map L2.T.int).length+(j7 (d.map L2.T.int) (some ((a:Nat)+1)) (some ((a:Nat)+25))).length<=sizeLine/\_;refine⟨?_,?_⟩
 .rw[Fl,ak,ak,ak,WH];exact aL (show _<=1100 by lia) wf
 dsimp only[frz];rw[O];have C:(mK e n++j7 d (some ((a:Nat)+1)) (some ((a:Nat)+25))).length<=1100:=by rw[aA,ak,WH];lia
 generalize mK e n++j7 d (some ((a:Nat)+1)) (some ((a:Nat)+25))=U at C ⊢;refine gG L2.T.int U (λ_ o=>∃(t:xk)(p l j:OT),o=[.fz (k3 d),.fz (.int (a:Nat)),.fz (.int (m:Nat)),.fz (.bl false),.l2 (f5 t),.fz (.int e),.fz (.lst ((mK e n).map L2.T.int)),p,l,j]/\DSk m 3 t) ⟨_,_,_,_,rfl,A⟩ ?_ ?_
 .rintro _ c _ _ _ ⟨t,p,l,j,rfl,h⟩;refine⟨c,m,rfl,by lia,by exact aL v wf,λr b X hd=>⟨rfl,?_⟩⟩;have H:r<t.length:=by rwa[h.len]
  have u:=aj H;refine⟨_,Pl u,c4 (λlt=>?_) λ_=>⟨t,.fz (.int c),.fz (.int (r:Nat)),.fz (dc b),rfl,h⟩⟩;have lt:((t[r].map dc).length:Int)<3:=lt;rw[ak]at lt;refine⟨r,t[r].map dc,?_,by rw[aq,u];rfl,by rw[ak];exact aR (show _<1001 by lia) wf,t.set r (t[r]++[b]),.fz (.int c),.fz (.int (r:Nat)),.fz (dc b),?_,h.add u wp hd⟩
  .unfold c6;rw[ak,ZY (WZ _),ZY wp]
   rfl
  .rw[show f5 (t.set r (t[r]++[b]))=(f5 t).set r (t[r].map dc++[dc b])by
    unfold f5;rw[map_set,bf]
    rfl]
   rfl
 .rintro _ ⟨t,p,l,j,rfl,h⟩;exact q t h
def G6(j:zI)(p:Nat×Rat):zI:=if(j.any λx=>decide (x.1=p.1))=true then j.map (λx=>if x.1=p.1 then(x.1,x.2+p.2)else x)else j++[p]
def Gj(F:zI):zI:=F.foldl G6 []
def Bb(F:zI):zI:=(Gj F).filter λp=>!decide (p.2=0)
abbrev bc(d:Φ)(p:Nat×Rat):Str×Rat:=(d.getD p.1 ⟨#[]⟩,p.2)
def Ue(c:d.Nodup){j:Nat}(b:i<d.length)(a:j<d.length):(d.getD i ⟨#[]⟩=d.getD j ⟨#[]⟩)↔i=j:=by
 constructor
 .intro h;rw[au,au,aj b,aj a]at h;rcases Nat.lt_trichotomy i j with l|l|l
  .exact absurd h ((List.pairwise_iff_getElem.mp c) i j b a l)
  .exact l
  .exact absurd h.symm ((List.pairwise_iff_getElem.mp c) j i a b l)
 .intro h;rw[h]
def Os(b:d.Nodup){p:Nat×Rat}(c:∀w∈j,w.1<d.length)(f:p.1<d.length):cc (j.map (bc d)) (bc d p)=(G6 j p).map (bc d):=by
 have g:((j.map (bc d)).any λx=>decide (x.1=(bc d p).1))=j.any λx=>decide (x.1=p.1):=by
  rw[any_map];refine Bool.eq_iff_iff.mpr ⟨λh=>?_,λh=>?_⟩
  .obtain⟨x,a,e⟩:=List.any_eq_true.mp h;exact List.any_eq_true.mpr ⟨x,a,Zs ((Ue b (c x a) f).mp (of_decide_eq_true e))⟩
  .obtain⟨x,a,e⟩:=List.any_eq_true.mp h;exact List.any_eq_true.mpr ⟨x,a,Zs ((Ue b (c x a) f).mpr (of_decide_eq_true e))⟩
 unfold cc G6;rw[g];split
 .rw[WJ,WJ];refine Tk λx a=>?_;show(if(bc d x).1=(bc d p).1 then _ else _)=bc d (if x.1=p.1 then _ else _);by_cases e:x.1=p.1
  .rw[ZY e,ZY ((Ue b (c x a) f).mpr e)]
  .rw[ZZ e,ZZ λz=>e ((Ue b (c x a) f).mp z)]
 .rw[bf];rfl
def Ko{p w:Nat×Rat}(h:w∈G6 j p):(w∈j/\w.1≠p.1)\/w=p\/∃x∈j,x.1=p.1/\w=(x.1,x.2+p.2):=by
 unfold G6 at h;split at h
 .obtain⟨x,a,rfl⟩:=YV.mp h;by_cases e:x.1=p.1
  .rw[ZY e];exact .inr (.inr ⟨x,a,e,rfl⟩)
  .rw[ZZ e];exact .inl ⟨a,e⟩
 .rename_i n
  rcases Y1.mp h with z|z
  .exact .inl ⟨z,λe=>n (List.any_eq_true.mpr ⟨w,z,Zs e⟩)⟩
  .exact .inr (.inl (YR.mp z))
def Zf(c:d.Nodup)(h:∀p∈F,p.1<d.length):lU (F.map (bc d))=(Gj F).map (bc d):=by
 suffices H:∀(F j:zI),(∀p∈F,p.1<d.length)->(∀w∈j,w.1<d.length)->(F.map (bc d)).foldl cc (j.map (bc d))=(F.foldl G6 j).map (bc d)from H F [] h λ_ z=>(nomatch z)
 intro F
 induction F with
 |nil=>exact λ_ _ _=>rfl
 |cons p F e =>
  intro j b a;rw[map_cons,foldl_cons,foldl_cons,Os c a (b p (aO ..))];refine e _ (λq g=>b q (aJ _ g)) λw i=>?_;rcases Ko i with⟨z,_⟩|rfl|⟨x,f,_,rfl⟩
  .exact a w z
  .exact b w (aO ..)
  .exact a x f
def ZO(a:d.Nodup)(h:∀p∈F,p.1<d.length):Fb (F.map (bc d))=(Bb F).map (bc d):=by
 unfold Fb Bb;rw[Zf a h,List.filter_map]
 rfl
def vI{q:Nat}(c:0<q):r.den ∣ q↔∃x:Int,r=divInt x q:=by
 constructor
 .rintro⟨k,rfl⟩;refine⟨r.num*k,?_⟩;have d:((k:Nat):Int)≠0:=λz=>by rw[show k=0 by lia]at c;lia
  conv=>lhs;rw[<- rd r]
  refine(QQ (kZ r) (by push_cast;exact qx (kZ r) d)).mpr ?_
  push_cast
  grind
 .rintro⟨x,rfl⟩;have:=Km (a:=x) (b:=(q:Nat)) wp;exact this
def Ab{b:Rat}{q:Nat}(d:0<q)(f:a.den ∣ q)(e:b.den ∣ q):(a+b).den ∣ q:=by
 obtain⟨x,rfl⟩:=(vI d).mp f;obtain⟨y,rfl⟩:=(vI d).mp e;have c:((q:Nat):Int)≠0:=by lia
 refine(vI d).mpr ⟨x+y,?_⟩;rw[ke _ _ c c];refine(QQ (qx c c) c).mpr ?_
 grind
def dh{b:Rat}{q r:Nat}(d:0<q)(c:0<r)(f:a.den ∣ q)(e:b.den ∣ r):(a*b).den ∣ q*r:=by
 obtain⟨x,rfl⟩:=(vI d).mp f;obtain⟨y,rfl⟩:=(vI c).mp e;refine(vI (UP d c)).mpr ⟨x*y,?_⟩;rw[ki]
 push_cast
 rfl
theorem _Y : (-a).den=a.den:=rfl
structure im(m q:Nat)(as j:zI):Prop where
 nd:(j.map (·.1)).Nodup
 lt:∀w∈j,w.1<m
 nn:∀w∈j,0<=w.2
 dn:∀w∈j,w.2.den ∣ q
 sum:∀y:Nat->Rat,dw j y=dw as y
 few:j.length<=as.length
def Yt(b c:zI)(y:Nat->Rat):dw (b++c) y=dw b y+dw c y:=by
 induction b with
 |nil=>show dw c y=0+_;rw[Rat.zero_add]
 |cons a b d=>rw[cons_append,cZ,cZ,d,Rat.add_assoc]
def EO(p:Nat×Rat)(y:Nat->Rat):dw [p] y=p.2*y p.1:=by rw[cZ];show _+0=_;rw[Rat.add_zero]
def OO{p:Nat×Rat}(a:(j.map (·.1)).Nodup)(y:Nat->Rat):dw (G6 j p) y=dw j y+p.2*y p.1:=by
 unfold G6;split
 .rename_i h
  induction j with
  |nil=>cases h
  |cons x j d =>
   obtain⟨c,b⟩:=List.nodup_cons.mp a;rw[map_cons,cZ,cZ];by_cases e:x.1=p.1
   .rw[ZY e];have rest:j.map (λx=>if x.1=p.1 then(x.1,x.2+p.2)else x)=j:=by
     conv=>rhs;rw[<- List.map_id j]
     refine Tk λz f=>?_;rw[ZZ λw=>c (YV.mpr ⟨z,f,w.trans e.symm⟩)]
     rfl
    rw[rest,<- e];show(x.2+p.2)*y x.1+dw j y=_
    grind
   .rw[ZZ e,d b (by
     rw[any_cons,Zp e,Bool.false_or]at h;exact h)]
    grind
 .rw[Yt,EO]
def SE{p:Nat×Rat}(a:(j.map (·.1)).Nodup):((G6 j p).map (·.1)).Nodup:=E' a
def U'{q:Nat}(e:0<q){d:zI}{p:Nat×Rat}(c:p.1<m/\0<=p.2/\p.2.den ∣ q)(h:im m q d j):im m q (d++[p]) (G6 j p):=by
 refine⟨SE h.nd,λw b=>?_,λw b=>?_,λw b=>?_,λy=>by rw[OO h.nd,h.sum,Yt,EO],?_⟩
 .rcases Ko b with⟨z,_⟩|rfl|⟨x,a,_,rfl⟩
  .exact h.lt w z
  .exact c.1
  .exact h.lt x a
 .rcases Ko b with⟨z,_⟩|rfl|⟨x,a,_,rfl⟩
  .exact h.nn w z
  .exact c.2.1
  .have:=h.nn x a;have:=c.2.1;show 0<=x.2+p.2
   grind
 .rcases Ko b with⟨z,_⟩|rfl|⟨x,a,_,rfl⟩
  .exact h.dn w z
  .exact c.2.2
  .exact Ab e (h.dn x a) c.2.2
 .have:=h.few;unfold G6;split
  .rw[ak,aA];exact aL this (X9 _ _)
  .rw[aA,aA];simp;omega
def Qn{q:Nat}(e:0<q):∀{F:zI},(∀p∈F,p.1<m/\0<=p.2/\p.2.den ∣ q)->im m q F (Gj F):=by
 intro F h
 suffices H:∀(F a j:zI),(∀p∈F,p.1<m/\0<=p.2/\p.2.den ∣ q)->im m q a j->im m q (a++F) (F.foldl G6 j)from H F [] [] h ⟨.nil,λ_ z=>(nomatch z),λ_ z=>(nomatch z),λ_ z=>(nomatch z),λ_=>rfl,aG _⟩
 intro F
 induction F with
 |nil=>intro a j _ h;rwa[append_nil]
 |cons p F c =>
  intro a j b h;have:=c (a++[p]) (G6 j p) (λx d=>b x (aJ _ d)) (U' e (b p (aO ..)) h);rw[WV]at this;exact this
theorem G_(y:Nat->Rat):∀j:zI,dw (j.filter λp=>!decide (p.2=0)) y=dw j y
 |[]=>rfl
 |w::j=>by
  by_cases e:w.2=0
  .rw[List.filter_cons_of_neg (by rw[Zs e];decide),G_ y j,cZ,e,Rat.zero_mul,Rat.zero_add]
  .rw[List.filter_cons_of_pos (by rw[Zp e];rfl),cZ,cZ,G_ y j]
def J_{q:Nat}(b:0<q)(h:∀p∈F,p.1<m/\0<=p.2/\p.2.den ∣ q):im m q F (Bb F):=by
 have j:=Qn b h;have sub:∀w∈Bb F,w∈Gj F:=λw a=>(List.mem_filter.mp a).1;refine⟨(List.filter_sublist.map _).nodup j.nd,λw a=>j.lt w (sub w a),λw a=>j.nn w (sub w a),λw a=>j.dn w (sub w a),λy=>?_,aL (List.length_filter_le ..) j.few⟩;unfold Bb;rw[G_,j.sum]
theorem Bo{w:Nat×Rat} : ∀{j:zI},(∀w∈j,0<=w.2)->w∈j->w.2<=dw j λ_=>1
 |[],_,h=>by cases h
 |x::j,a,h=>by
  rw[cZ];have b:∀j:zI,(∀w∈j,0<=w.2)->0<=dw j λ_=>1:=λj=>by
   induction j with
   |nil=>intro _;exact VQ
   |cons y j c =>
    intro h;rw[cZ];have:=h y (aO ..);have:=c λw hw=>h w (aJ _ hw)
    grind
  rcases YU.mp h with rfl|z
  .have:=b j λw hw=>a w (aJ _ hw)
   grind
  .have:=Bo (j:=j) (λw hw=>a w (aJ _ hw)) z;have:=a x (aO ..)
   grind
theorem xG:∀F:zI,(dw F λ_=>1)=FJ (F.map (·.2))
 |[]=>rfl
 |p::F=>by
  rw[cZ,xG F,Rat.mul_one]
  rfl
def LDk.all{d:LD}(h:LDk m d):∃q:Nat,0<q/\q<=4000/\∀p∈d.prs,p.1<m/\0<=p.2/\p.2.den ∣ q:=by
 obtain⟨q,c,b,e⟩:=h.dn;exact⟨q,c,b,λp a=>⟨h.lt p a,h.nn p a,e p a⟩⟩
def pk{q:Nat}(a:0<q)(d:q<=4000)(c:0<=r)(b:r<=1)(hd:r.den ∣ q):Ch r:=⟨c,b,gP (by have:=UX a hd;lia)⟩
def LDk.prsOk{c:LD}(h:LDk m c)(z:ik d m):l_ (c.prs.map (bc d)):=by
 obtain⟨q,i,l,t⟩:=h.all;have o:∀p∈c.prs,p.2<=1:=λp f=>by
  rw[<- h.one,<- xG];exact Bo h.nn f
 have few:=h.few;have D:(c.prs.map (bc d)).map (·.2)=c.prs.map (·.2):=by rw[WJ];rfl
 refine⟨by rw[ak];exact aL few wf,λp f=>?_,?_,by rw[D];exact h.one,λU a T e=>?_⟩
 .obtain⟨x,v,rfl⟩:=YV.mp f;obtain⟨R,I,H⟩:=t x v;have E:x.1<d.length:=by rwa[z.len]
  refine⟨z.wd _ ?_,pk i l I (o x v) H⟩;show d.getD x.1 ⟨#[]⟩∈d;rw[au,aj E];exact aU E
 .rw[D];have:=jU (c.prs.map (·.2)) (n:=1) (m:=q) (U1 _) λr N=>by
   obtain⟨x,v,rfl⟩:=YV.mp N;exact(t x v).2.2
  have:=UX i this;exact gP wp
 .obtain⟨k,Q,u,rfl,O⟩:=List.map_eq_append_iff.mp e;obtain⟨g,C,rfl,rfl,rfl⟩:=List.map_eq_cons_iff.mp O;have sub:∀p∈k,p∈c.prs:=λp f=>u ▸ U2 _ f;have A:=t g (u ▸ aP _ (aO ..));have P:Ch g.2:=pk i l A.2.1 (o g (u ▸ aP _ (aO ..))) A.2.2;have b:=Qn i (F:=k) (m:=m) λp f=>t p (sub p f);rw[Zf z.nd λp f=>by rw[z.len];exact(t p (sub p f)).1];have G:Ch (Ds ((Gj k).map (bc d)) (bc d g).1):=by
   unfold Ds;cases B:((Gj k).map (bc d)).find? λx=>decide (x.1=(bc d g).1)with
   |none=>exact⟨VQ,by show(0:Rat)<=1;decide,gP wf⟩
   |some x =>
    obtain⟨y,s,rfl⟩:=YV.mp (List.mem_of_find?_eq_some B);refine pk i l (b.nn y s) ?_ (b.dn y s);have L:=Bo b.nn s;rw[b.sum]at L;have K:=h.one;rw[<- xG,u,Yt]at K;have S:0<=dw (g::C) λ_=>1:=by
     have:∀j:zI,(∀w∈j,0<=w.2)->0<=dw j λ_=>1:=λj=>by
      induction j with
      |nil=>intro _;exact VQ
      |cons y j M =>
       intro h;rw[cZ];have:=h y (aO ..);have:=M λw hw=>h w (aJ _ hw)
       grind
     exact this _ λw hw=>h.nn w (u ▸ aP _ hw)
    show y.2<=1
    grind
  refine⟨G.bq,P.bq,?_⟩;have:=G.2.2;have:=UX i A.2.2;have J:(Ds ((Gj k).map (bc d)) (bc d g).1).den<=4000:=by
   unfold Ds;cases B:((Gj k).map (bc d)).find? λx=>decide (x.1=(bc d g).1)with
   |none=>exact TZ rfl
   |some x =>
    obtain⟨y,s,rfl⟩:=YV.mp (List.mem_of_find?_eq_some B);have:=UX i (b.dn y s);exact aL this l
  refine gP ?_;rw[VW,X0,X0];exact Y3 (W1 J (show g.2.den<=4000 by exact aL this l)) wf
def c_(D:a'):Nat->Addr
 |0=>D.Sure
 |1=>D.Toss
 |2=>D.Even
 |_=>D.Mixed
abbrev S8(t:Str)(d:LD):bM:=⟨t,d.pay,Bb d.prs⟩
abbrev zO(D:a')(t:Str)(d:LD):Made:=⟨c_ D d.sort,S8 t d⟩
def abZ(D:a'):∀k,dO D (c_ D k)
 |0=>by unfold dO c_;simp
 |1=>by unfold dO c_;simp
 |2=>by unfold dO c_;simp
 |_+3=>by unfold dO c_;simp
def U6(D:a'):ST:=λb q=>∃(t:Str)(a:LD)(d:Φ)(m:Nat),b=[.str t,dc a,.lst (d.map T.str)]/\Wd t/\ik d m/\LDk m a/\q (.fz (eT d (zO D t a)))
theorem acp(e:Fun K Fg Fg FZ f G)(T:Txt K mg D)(H:OkI P w K mg base ab 5 D.Sure_init m7 (di K (Fh D)))(Q:OkI P w K mg base ab 5 D.Mixed_init gR (di K (Em D)))(X:OkI P w K mg base ab 6 D.Toss_init ou (di K (Zn D)))(I:OkI P w K mg base ab 6 D.Even_init nY (di K (E6 D))):bW P w K mg base ab 8 f G Ay (am K (U6 D)):=by
 refine e.okT VJ (λA _=>bF (Q8 we (fH (n:=3) (bT (cB (n:=99) 4) (bT (cB (n:=99) 5) (bT (cB (n:=99) 6) dN)))))
  (bF (qP (bG FZ) Fd Fd ["_law_room","_law_chance"] (cI (qv 6)) (fH (n:=2) (bT (d_ (i:=0)) (bT (d_ (i:=1)) dN))) cC (dB (bx (bJ wE wn) (bx we bC))) (mD (i:=3) VJ.nd rfl (Or.inl rfl)))
  (bF (cG (cj (yA A.units) wE bA)
  (bH (bN (Et T.afZ H T.aiN (bx wn (bx (qv 5) (bx (bJ (bJ wP bA) bA) bC))))))
  bQ)
  (bF (cG (cj (yA A.units) wE bA)
  (bH (bN (Et T.afH X T.ajH (bx wn (bx (qv 5) (bx (bJ (bJ wP bA) bA) (bx (bJ (bJ wP bA) bA) (bx (bJ (bJ wP bA) bA) bC))))))))
  bQ)
  (bF (cG (cj (yA A.units) wE bA)
  (bH (bN (Et T.aeM I T.ajz (bx wn (bx (qv 5) (bx (c7 (bG FZ) Fd Fd ["_law_room","_law_chance"] (cI wP) (fH (n:=2) (bT (d_ (i:=0)) (bT (d_ (i:=1)) dN))) cC wn) bC))))))
  bQ)
  (bH (bN (Et T.acR Q T.Ro (bx wn (bx (qv 5) (bx wP bC))))))))))) ?_
 rintro _ R ⟨t,c,d,m,rfl,v,y,hd,q⟩;have s:=hd.few;have S:∀p∈c.prs,ca (d.map L2.T.str) (p.1:Nat)=some (.str (bc d p).1):=λp j=>by
  have C:p.1<d.length:=by rw[y.len];exact hd.lt p j
  exact ju (by rw[aj C];show _=some (d.getD p.1 ⟨#[]⟩);rw[au,aj C];rfl)
 have U:(c.prs.map (bc d)).map cg=c.prs.map λp=>cg (bc d p):=by rw[WJ];rfl
 have o:=hd.prsOk y;have z:=ZO y.nd (F:=c.prs) λp j=>by rw[y.len];exact hd.lt p j
 refine⟨rfl,by rw[ak];exact aL s wf,comp_map dz (λp=>cg (bc d p)) c.prs (λp j N M B=>⟨rfl,_,S p j,B⟩) ?_⟩;rw[<- U];obtain⟨k,g,l⟩:=c;have Y:k<4:=hd.sort;have O:=hd.s0;have L:=hd.s1;have J:=hd.s2;dsimp only at *;obtain rfl|rfl|rfl|rfl:k=0\/k=1\/k=2\/k=3:=by lia
 .obtain⟨a,rfl⟩:=O rfl;have W:Bb [(a,1)]=[(a,1)]:=by simp[Bb,Gj,G6]
  have h:R (.fz (gy D.Sure t g ([(a,1)].map (bc d)))):=by rw[<- W];exact q
  exact⟨_,rfl,t,_,g,rfl,rfl,ac8 D,rfl,v,(o.ok (bc d (a,1)) (YR.mpr rfl)).1,h⟩
 .obtain⟨a,b,x,rfl⟩:=L rfl;have h:R (.fz (gy D.Toss t g (Fb ([(a,x),(b,1-x)].map (bc d))))):=by rw[z];exact q
  exact⟨_,rfl,_,rfl,_,rfl,t,_,_,g,x,rfl,rfl,acP D,rfl,v,(o.ok (bc d (a,x)) (aO ..)).2,o,h⟩
 .obtain⟨u,rfl⟩:=J rfl;have h:R (.fz (gy D.Even t g (Fb ((u.map λr=>(r,mkRat 1 u.length)).map (bc d))))):=by rw[z];exact q
  have E:even (((u.map λr=>(r,mkRat 1 u.length)).map (bc d)).map (·.1))=(u.map λr=>(r,mkRat 1 u.length)).map (bc d):=by
   have V:(((u.map λr=>(r,mkRat 1 u.length)).map (bc d)).map (·.1)).length=u.length:=by simp
   unfold even;rw[V];simp[Function.comp_def]
  refine⟨by rw[ak,ak];exact aL s wf,comp_map cg (λp=>.str p.1) ((u.map λr=>(r,mkRat 1 u.length)).map (bc d)) (λp j N M B=>⟨rfl,B⟩) ⟨t,g,((u.map λr=>(r,mkRat 1 u.length)).map (bc d)).map (·.1),rfl,rfl,ad9 D,?_,v,by rw[E];exact o,?_⟩⟩
  .rw[show(((u.map λr=>(r,mkRat 1 u.length)).map (bc d)).map (·.1)).map L2.T.str=((u.map λr=>(r,mkRat 1 u.length)).map (bc d)).map λp=>L2.T.str p.1 from WJ]
   rfl
  .rw[E];exact h
 .have h:R (.fz (gy D.Mixed t g (Fb (l.map (bc d))))):=by rw[z];exact q
  exact⟨t,g,l.map (bc d),rfl,rfl,aa2 D,rfl,v,o,h⟩
structure oJ(t:xk)(l:zD):Prop where
 len:l.length=t.length
 at_:∀(k:Nat)ds os,t[k]?=some ds->l[k]?=some os->∃tl:Φ,tl.length=ds.length/\os=(tl.zip ds).map λp=>S8 p.1 p.2
theorem W2{Q c:Type} : ∀{xs:List Q}{A:List c}{x:Q}(y:c),xs[A.length]?=some x->xs.zip (A++[y])=xs.zip A++[(x,y)]
 |[],A,_,_,e=>by cases e
 |a::xs,[],x,y,e=>by cases e;simp
 |a::xs,b::A,x,y,e=>by
  rw[cons_append,zip_cons_cons,zip_cons_cons,W2 (xs:=xs) (A:=A) y (by simpa using e)]
  rfl
theorem zA{Q b:Type}(f:Q->T)(g:b->T):∀(a:List Q)(A:List b),xZ (a.map f) (A.map g)=(a.zip A).map λp=>.tup [f p.1,g p.2]
 |[],A=>by cases A<;>rfl
 |_::_,[]=>rfl
 |x::a,y::A=>by
  rw[zip_cons_cons,map_cons,map_cons,map_cons,<- zA f g a A]
  rfl
def EW(D:a'):ST:=λa q=>∃(c:Int)(s:Rat)(m X:Nat)(t:xk),a=[.int c,aa s,lz t]/\Shr s/\DSk m X t/\m<=26/\X<=26/\∀d l,ik d m->yc d l->oJ t l->q (.fz (bu D s d l))
def ZA(F:Fun K J2 J2 Um f G)(T:Txt K mg D)(Kh:ag P w K mg base 2 Fv Af Wz)(R3:ag P w K mg base 8 Fg Ay (U6 D))(zN:OkI P w K mg base ab 4 D.Hall_init mY (di K (Zu D))):bW P w K mg base ab 9 f G GQ (am K (EW D)):=by
 refine F.okT WF (λ_ _=>bF (bO 3 (bI Kh (bx wn (bx (bY eF T.gk VY (bx wa bC)) bC))))
  (bF (kY 4 (eG bC))
  (bF (eV (fQ T.gJ (bx (bY eF T.gk VY (bx wa bC)) bC)) (cB (n:=99) 5)
  (bF (bO 6 (bI Kh (bx (bL dg wn (qv 5)) (bx (bY eF T.gk VY (bx (bJ wa (qv 5)) bC)) bC))))
  (bH (uD 4 (dB (bx (bJ wP (qv 5)) (bx (c7 (bG Um) Yo Yo ["_law_title","_law_door_here"] (zJ T.Jg (bx (qv 6) (bx (bJ wa (qv 5)) bC))) (fH (n:=2) (bT (d_ (i:=0)) (bT (d_ (i:=1)) dN))) cC (bI R3 (bx wn (bx we (bx (qv 5) bC))))) bC)))))))
  (bH (Ul 4 (bN (Et T.aeV zN T.ahE (bx we (bx wE bC))))))))) ?_
 rintro _ R ⟨c,s,m,X,t,rfl,r,hd,m1,S,q⟩;have dl:(t.map λb=>L2.T.lst (b.map dc)).length=m:=by rw[ak,hd.len]
 refine⟨c,m,by rw[<- dl];rfl,m1,λd B=>?_⟩;have Q:=B.len;have e0:Du d []=[]:=by simp[Du]
 refine⟨⟨by rw[dl];lia,by rw[dl];lia⟩,yF (λk o=>∃(e:xA)(O L:OT),o=[.fz (.int c),.fz (aa s),.fz (lz t),.fz (.lst (d.map L2.T.str)),.l1 (Du d e),O,L]/\e.length=k/\∀(i:Nat)b x,t[i]?=some b->e[i]?=some x->∃a,ik a b.length/\x=(a.zip b).map λp=>zO D p.1 p.2) ⟨[],.und,.und,by rw[e0];rfl,rfl,λi b x _ z=>by cases z⟩ ?_ ?_⟩
 .rintro k _ hk ⟨e,O,L,rfl,h,I⟩;have hk:k<m:=by rw[dl]at hk;lia
  have v:k<t.length:=by rwa[hd.len]
  have ek:=aj v;have u:=aU v;have fk:=hd.few _ u;have C:ca (t.map λb=>L2.T.lst (b.map dc)) (k:Nat)=some (.lst (t[k].map dc)):=ju ek;have nk:d[k]?=some (d.getD k ⟨#[]⟩):=by rw[au,aj wp];rfl
  refine⟨_,C,c+k,t[k].length,by rw[<- ak (as:=t[k]) (f:=dc)];rfl,by exact aL fk S,λa l=>?_⟩;refine⟨_,ju nk,_,C,?_⟩;have zl:(a.zip t[k]).length<=26:=by rw[VZ];lia
  show(xZ (a.map L2.T.str) (t[k].map dc)).length<=sizeLine/\iH _ _ _ _ (xZ (a.map L2.T.str) (t[k].map dc)) _;rw[zA];refine⟨by rw[ak];exact aL zl wf,comp_map (λp=>.tup [.str p.1,dc p.2]) (λp=>eT d (zO D p.1 p.2)) (a.zip t[k]) (λp H N M hN=>⟨rfl,p.1,p.2,d,m,rfl,l.wd _ (VX H).1,B,hd.ok _ u _ (VX H).2,hN⟩) ⟨?_,e++[(a.zip t[k]).map λp=>zO D p.1 p.2],.fz (.int (k:Nat)),.fz (.lst (a.map L2.T.str)),?_,by rw[aA,h];rfl,λi b x E g=>?_⟩⟩
  .rw[ak,VZ];exact aR (show _<1000 by lia) wf
  .rw[show Du d (e++[(a.zip t[k]).map λp=>zO D p.1 p.2])=Du d e++[.tup [.str (d.getD k ⟨#[]⟩),.lst ((a.zip t[k]).map λp=>eT d (zO D p.1 p.2))]]by
    unfold Du;rw[W2 (x:=d.getD k ⟨#[]⟩) _ (by rwa[h]),bf,map_singleton]
    congr 2
    show gL (_,((a.zip t[k]).map λp=>zO D p.1 p.2).map (eT d))=_;rw[WJ]
    rfl]
   rfl
  .by_cases J:i<e.length
   .rw[aF J]at g;exact I i b x E g
   .have U:=(ao.mp g).1;rw[aA,length_singleton]at U;have:i=k:=by lia
    subst this;rw[aD (WG h),show i-e.length=0 by lia]at g;cases g;rw[ek]at E;cases E;exact⟨a,l,rfl⟩
 .rintro _ ⟨e,O,L,rfl,h,I⟩;have h:e.length=m:=by rwa[h]
  have all:∀x∈e,∃b∈t,∃a,ik a b.length/\x=(a.zip b).map λp=>zO D p.1 p.2:=λx A=>by
   obtain⟨i,J⟩:=aV A;have U:=(ao.mp J).1;have ld:i<t.length:=by rw[hd.len];exact aR U (WG h)
   exact⟨_,aU ld,I i _ x (aj ld) J⟩
  have Z:DF D d e:=by
   refine⟨by rw[h,Q],by lia,B.wd,B.nd,λx A=>?_⟩;obtain⟨b,fg,a,l,rfl⟩:=all x A;have G:=hd.few b fg;have i6:=l.len;refine⟨by rw[ak,VZ];lia,λy V=>?_,λy V=>?_,?_⟩
   .obtain⟨p,_,rfl⟩:=YV.mp V;exact abZ D _
   .obtain⟨p,H,rfl⟩:=YV.mp V;have v:=hd.ok b fg p.2 (VX H).2;obtain⟨qq,q0,q1,hq⟩:=v.all;have j:=J_ q0 hq;have:=j.few;have:=v.few;exact⟨by show(Bb p.2.prs).length<=1000;lia,λw hw=>by rw[Q];exact j.lt w hw⟩
   .rw[WJ];show((a.zip b).map λp=>p.1).Nodup;rw[List.map_fst_zip (WG i6)];exact l.nd
  have bs:Bq s:=⟨gP (by
   have h0:=Rat.num_nonneg.mpr r.lo;have W:=(lt_iff s 1).mp r.hi;have W:s.num*((1:Rat).den:Int)<(1:Rat).num*(s.den:Int):=W;have:=r.den;simp at W;lia),gP (by have:=r.den;lia)⟩
  refine⟨s,d,e,rfl,rfl,rfl,rfl,r.lo,r.hi,bs,Z,q d (fi e) B ⟨?_,by lia,λos hU=>?_⟩ ⟨?_,λk b os E g=>?_⟩⟩
  .rw[ak,h,Q]
  .obtain⟨x,A,rfl⟩:=YV.mp hU;rw[ak];exact(Z.mds x A).few
  .rw[ak,h,hd.len]
  .rw[aq]at g;cases Y:e[k]? with
   |none=>rw[Y]at g;cases g
   |some x =>
    rw[Y]at g;cases g;obtain⟨a,l,rfl⟩:=I k b x E Y;exact⟨a,l.len,WJ⟩
structure kv(t:xk)(C:zS):Prop where
 len:C.length=t.length
 ok:∀(k:Nat)(d:xC)(ds:List LD),C[k]?=some d->t[k]?=some ds->PK d ds.length=true
open Rw (sg iz gw bZ iK jt Big)
def Rz(n d:Nat)(r:Rat):Prop:=r.num.natAbs<=10^n/\r.den<=10^d
def Tc{d:Nat}{a:Int}(c:0<b)(f:a.natAbs<=10^n)(e:b.toNat<=10^d):Rz n d (divInt a b):=by
 obtain⟨x,y⟩:=div_pos (a:=a) c;exact⟨aL y f,aL x e⟩
def Rz.mul{d c h:Nat}{b:Rat}(g:Rz n d a)(f:Rz c h b):Rz (n+c) (d+h) (a*b):=by
 have e:a*b=divInt (a.num*b.num) (a.den*b.den):=by rw[<- ki,rd,rd]
 have p:(0:Int)<(a.den:Int)*b.den:=XZ (by have:=a.den_pos;lia) (by have:=b.den_pos;lia);rw[e];refine Tc p ?_ ?_
 .rw[VW,UY];exact W1 g.1 f.1
 .rw[<- Ts,T2,UY];exact W1 g.2 f.2
def Rz.add{d h g:Nat}{b:Rat}(f:Rz n d a)(c:Rz h g b)(j:n+g<=k)(i:h+d<=k):Rz (k+1) (d+g) (a+b):=by
 have e:a+b=divInt (a.num*b.den+b.num*a.den) (a.den*b.den):=by rw[<- ke _ _ (kZ a) (kZ b),rd,rd]
 have p:(0:Int)<(a.den:Int)*b.den:=XZ (by have:=a.den_pos;lia) (by have:=b.den_pos;lia);rw[e];refine Tc p ?_ ?_
 .have x:(a.num*b.den).natAbs<=10^k:=by
   rw[VW,X0];exact aL (W1 f.1 c.2) (by rw[<- UY];exact XG wf j)
  have y:(b.num*a.den).natAbs<=10^k:=by
   rw[VW,X0];exact aL (W1 c.1 f.2) (by rw[<- UY];exact XG wf i)
  have z:=Int.natAbs_add_le (a.num*b.den) (b.num*a.den);rw[pow_succ];lia
 .rw[<- Ts,T2,UY];exact W1 f.2 c.2
def uQ{i:Int}(h:i.natAbs<=10^n)(a:n<=2400):Bd i:=Y3 (aL h (XG wf a)) (by decide +kernel)
def Rz.bq{d:Nat}(h:Rz n d r)(a:n<=2400)(hd:d<=2400):Bq r:=⟨uQ h.1 a,uQ (by rw[X0];exact h.2) hd⟩
def Rz.dd{d e c:Nat}{b:Rat}(g:Rz n d a)(f:Rz e c b)(h:d+c<=2400):Bd ((a.den:Int)*b.den):=uQ (n:=d+c) (by
 rw[VW,X0,X0,UY];exact W1 g.2 f.2) h
def Rz.mono{d b c:Nat}(h:Rz n d a)(f:n<=b)(e:d<=c):Rz b c a:=⟨aL h.1 (XG wf f),aL h.2 (XG wf e)⟩
def Io{A:Nat}(e:r<=(A:Rat))(d : -(A:Rat)<=r):r.num.natAbs<=A*r.den:=by
 have a:=(le_iff r (A:Rat)).mp e;have b:=(le_iff (-(A:Rat)) r).mp d;have a:r.num*((1:Nat):Int)<=(A:Int)*(r.den:Int):=a;have b : -(A:Int)*(r.den:Int)<=r.num*((1:Nat):Int):=b;have c:((A*r.den:Nat):Int)=(A:Int)*r.den:=Ts ..;rw[Int.neg_mul]at b;omega
structure OfB(m W U S:Nat)(o:bM):Prop where
 pn:o.pay.num.natAbs<=W
 pd:o.pay.den<=U
 cq:∃q:Nat,0<q/\q<=S/\∀w∈o.ways,w.2.den ∣ q
 nd:(o.ways.map (·.1)).Nodup
 few:o.ways.length<=1000
 lt:∀w∈o.ways,w.1<m
 nn:∀w∈o.ways,0<=w.2
 one:Hz o.ways<=1
theorem Gh:∀j:zI,Hz j=dw j λ_=>1
 |[]=>rfl
 |w::j=>by rw[Bg,cZ,Gh j,Rat.mul_one]
def OfB.le1{o:bM}(h:OfB m W U S o){w:Nat×Rat}(a:w∈o.ways):w.2<=1:=by
 have:=Bo h.nn a;rw[<- Gh]at this;exact Tu this h.one
def ZK{t:xk}{l:zD}(hd:DSk m X t)(c:oJ t l):∀n∈l,∀o∈n,OfB m (10^30) 1000 4000 o:=λos i o f=>by
 obtain⟨k,d⟩:=aV i;have a:k<t.length:=by rw[<- c.len];exact(ao.mp d).1
 obtain⟨r,_,rfl⟩:=c.at_ k _ os (aj a) d;obtain⟨p,h,rfl⟩:=YV.mp f;have a:=hd.ok _ (aU a) p.2 (VX h).2;obtain⟨q,b,e,g⟩:=a.all;have j:=J_ b g;have u:=j.few;have s:=a.few;exact⟨a.pay.num,a.pay.den,⟨q,b,e,j.dn⟩,j.nd,by show(Bb p.2.prs).length<=1000;lia,j.lt,j.nn,by
  show Hz (Bb p.2.prs)<=1;rw[Gh,j.sum,xG,a.one];exact VQ⟩
def Wo{t:xk}{l:zD}(hd:DSk m X t)(u:∀e∈t,∀d∈e,d.pay.den=1/\d.pay.num.natAbs<=9/\∀p∈d.prs,p.2=1)(c:oJ t l):∀e∈l,∀o∈e,OfB m 9 1 1 o:=λos h o f=>by
 have B:=ZK hd c os h o f;obtain⟨k,i⟩:=aV h;have a:k<t.length:=by rw[<- c.len];exact(ao.mp i).1
 obtain⟨v,_,rfl⟩:=c.at_ k _ os (aj a) i;obtain⟨p,g,rfl⟩:=YV.mp f;obtain⟨s,r,n⟩:=u _ (aU a) p.2 (VX g).2;have a:=hd.ok _ (aU a) p.2 (VX g).2;have j:=J_ (q:=1) VU (m:=m) (F:=p.2.prs) λx b=>⟨a.lt x b,a.nn x b,by rw[n x b];exact Qr 1⟩;exact⟨r,by show p.2.pay.den<=1;exact WG s,⟨1,VU,aG _,j.dn⟩,B.nd,B.few,B.lt,B.nn,B.one⟩
open Rw (sg iz gw bZ iK jt Big)
def O'(d:∀w∈j,0<=w.2)(c:Nat):0<=uE j c/\uE j c<=Hz j:=by
 induction j with
 |nil=>exact⟨VQ,VQ⟩
 |cons w j e =>
  have:=d w (aO ..);obtain⟨a,b⟩:=e λx f=>d x (aJ _ f);rw[Bg];show 0<=(if w.1=c then w.2 else 0)+uE j c/\(if w.1=c then w.2 else 0)+uE j c<=_;split<;>grind
def acZ{q:Nat}(d:0<q)(h:∀w∈j,w.2.den ∣ q)(a:Nat):(uE j a).den ∣ q:=by
 induction j with
 |nil=>exact U1 _
 |cons w j b =>
  refine Ab d ?_ (b λx c=>h x (aJ _ c));split
  .exact h w (aO ..)
  .exact U1 _
abbrev qO(c:xB):Nat:=b_ 1 ((lB c).map (·.2))
def CoB(m W U S:Nat)(c:xB):Prop:=∀o,c=some o->OfB m W U S o
def CoB.sh{c:xB}(h:CoB m W U S c):ck s m (lB c):=by
 cases c with
 |none=>exact⟨λ_ z=>(nomatch z),λ_ z=>(nomatch z),by show(0:Rat)<=1;decide⟩
 |some o=>have b:=h o rfl;exact⟨b.lt,b.nn,b.one⟩
def D9(c:xB):0<qO c:=eE _ VU
def SU{c:xB}{w:Nat×Rat}(a:w∈lB c):w.2.den ∣ qO c:=(jE _).2 _ (YV.mpr ⟨w,a,rfl⟩)
def CoB.q{m W U S:Nat}{c:xB}(h:CoB m W U S c)(f:1<=S):qO c<=S:=by
 cases c with
 |none=>exact f
 |some o =>
  obtain⟨q,b,a,e⟩:=(h o rfl).cq;refine aL (UX b (jU _ (U1 _) λr d=>?_)) a;obtain⟨w,hw,rfl⟩:=YV.mp d;exact e w hw
def CoB.pd{m W U S:Nat}{c:xB}(h:CoB m W U S c)(a:1<=U):(pL c).den<=U:=by
 cases c with
 |none=>exact a
 |some o=>exact(h o rfl).pd
def CoB.pn{m W U S:Nat}{c:xB}(h:CoB m W U S c):(pL c).num.natAbs<=W:=by
 cases c with
 |none=>exact aZ _
 |some o=>exact(h o rfl).pn
theorem vo:((1:Nat):Rat)=1:=rfl
def Re{c:xp}{j:Nat}(g:0<=s)(n:s<1)(h:CoB m W U S (c.getD i none)):(iw s c i j).den ∣ s.den*qO (c.getD i none)/\(iw s c i j).num.natAbs<=1*(iw s c i j).den:=by
 have e:=CoB.sh (s:=s) h;obtain⟨a,b⟩:=O' e.nn j;have l:=Tu b e.one;have o:s*uE (lB (c.getD i none)) j<=1:=by
  have:=UH l g
  grind
 have p:0<=s*uE (lB (c.getD i none)) j:=Q3 g a;have f:=s.den_pos;have d:=D9 (c.getD i none);refine⟨?_,Io ?_ ?_⟩
 .unfold iw;rw[sub_eq_add_neg];refine Ab (UP f d) ?_ ?_
  .split<;>exact U1 _
  .rw[_Y];exact dh f d (Qr _) (acZ d (λw k=>SU k) j)
 .unfold iw;rw[vo];split<;>grind
 .unfold iw;rw[vo];split<;>grind
def Zd{cs:xp}(e:Shr s)(l:cs.length<=100)(h:∀c∈cs,CoB cs.length W U S c)(o:1<=U)(n:1<=S)(k:N=(W+1)*(100*S*U))(v:(2*cs.length*N)^cs.length<=NN)(u:N<=NN):Sys (EY (Dy s cs) (cs.map pL)) N:=by
 have g:∀i,i<cs.length->CoB cs.length W U S (cs.getD i none):=λi d=>h _ (by rw[au,aj d];exact aU d);have t:=s.den_pos;have all:∀i,i<cs.length->∀c∈((range cs.length).map λj=>iw s cs i j)++[pL (cs.getD i none)],c.den ∣ s.den*qO (cs.getD i none)*(pL (cs.getD i none)).den/\c.num.natAbs<=(W+1)*c.den:=λi d c A=>by
  rcases Y1.mp A with z|z
  .obtain⟨j,_,rfl⟩:=YV.mp z;obtain⟨a,b⟩:=Re (j:=j) e.lo e.hi (g i d);exact⟨TR a (Nat.dvd_mul_right _ _),aL b (kl _ (Q4 _ _))⟩
  .rw[YR.mp z];refine⟨dvd_mul_left _ _,?_⟩;have:=(g i d).pn;have:=(pL (cs.getD i none)).den_pos;exact aL (show _<=(W+1)*1 by lia) (TH _ this)
 have m:∀i,i<cs.length->0<s.den*qO (cs.getD i none)*(pL (cs.getD i none)).den/\s.den*qO (cs.getD i none)*(pL (cs.getD i none)).den<=100*S*U:=λi d =>
  ⟨UP (UP t (D9 _)) (Rat.den_pos _),W1 (W1 e.den ((g i d).q n)) ((g i d).pd o)⟩
 refine⟨λr f=>?_,by rw[wV];exact l,λr f=>?_,λr f c y=>?_,?_,by rw[wV];exact v,u,?_⟩
 .obtain⟨i,d,rfl⟩:=Ke f;rw[wV,aA,ak,WH];rfl
 .obtain⟨i,d,rfl⟩:=Ke f;obtain⟨a,b⟩:=m i d;exact(_e (Q4 _ _) a (all i d)).le (by rw[k];exact TH _ b)
 .obtain⟨i,d,rfl⟩:=Ke f;obtain⟨a,b⟩:=all i d c y;obtain⟨p,q⟩:=m i d;exact da (aL b (aL (TH _ (aL (UX p a) q)) (by rwa[<- k])))
 .rw[k];exact UP (TU _) (UP (UP wf (aR (X2 _) n)) (aR (X2 _) o))
 .rw[wV];exact λx B w=>_1 e.lo e.hi (λi d=>(g i d).sh) x B w
def Ez(b:Shr s):Rz 2 2 s:=by
 have a:=Io (r:=s) (A:=1) (Th b.hi) (by have:=b.lo;rw[vo];grind);have:=b.den;exact⟨aL a wp,this⟩
def oD{o:bM}(h:OfB m W U S o)(g:S<=10^4){w:Nat×Rat}(b:w∈o.ways):Rz 4 4 w.2:=by
 obtain⟨q,c,f,e⟩:=h.cq;have d:=UX c (e w b);have a:=Io (r:=w.2) (A:=1) (h.le1 b) (by have:=h.nn w b;rw[vo];grind);exact⟨aL a wp,by lia⟩
def C3{l:zD}(f:∀g∈l,∀o∈g,OfB m W U S o):∀c∈cb l C,CoB m W U S c:=λc hc o b=>by
 obtain⟨p,h,rfl⟩:=YV.mp hc;cases e:p.1 with
 |none=>rw[e]at b;cases b
 |some d =>
  rw[e]at b;have b:(l.getD p.2 [])[d]?=some o:=b;by_cases a:p.2<l.length
  .rw[au,aj a]at b;exact f _ (aU a) o (aC b)
  .have:l[p.2]?=none:=aM (VS a);rw[au,this]at b;cases b
def Se{l:zD}(f:Shr s)(e:l.length<=100)(g:∀p∈l,∀o∈p,OfB l.length W U S o)(n:1<=U)(m:1<=S)(hc:S<=10^4)(k:N=(W+1)*(100*S*U))(r:(2*l.length*N)^l.length<=NN)(h:N<=NN)(i:cf l C):pV s (cb l C) N:=by
 have a:=Ho i;have q:=C3 (C:=C) g;have sz:=Ez f;refine⟨sz.bq wf wf,λc j=>?_,Zd f (aL (WG a) e) (by rwa[a]) n m k (by rwa[a]) h⟩;rw[a];cases c with
 |none=>exact⟨.nil,aZ _,λ_ z=>(nomatch z),λ_ z=>(nomatch z)⟩
 |some o =>
  have b:=q _ j o rfl;refine⟨b.nd,b.few,b.lt,λw hw=>?_⟩;have d:=oD b hc hw;exact⟨d.bq wf wf,sz.dd d wf,(sz.mul d).bq wf wf⟩
def Yc(u:xz)(n M:Nat)(d:0<M):(∀r∈u,r.den<=M)->b_ n u<=n*M^u.length:=by
 induction u generalizing n with
 |nil=>intro _;show n<=n*1;lia
 |cons r u b =>
  intro h;have a:Nat.lcm n r.den<=n*M:=aL (by unfold Nat.lcm;exact Q1 _ _) (TH _ (h r (aO ..)));refine aL (b (Nat.lcm n r.den) λx c=>h x (aJ _ c)) ?_;rw[length_cons,pow_succ,JU (M^u.length),<- Nat.mul_assoc];exact kl _ a
theorem Z2{Q:Type}(g:Q->Int)(b:Nat):∀j:List Q,(∀w∈j,(g w).natAbs<=b)->(j.map g).sum.natAbs<=j.length*b
 |[],_=>by simp
 |w::j,h=>by
  have a:=h w (aO ..);have c:=Z2 g b j λx d=>h x (aJ _ d);rw[map_cons,sum_cons,length_cons,add_mul,Nat.one_mul];have:=Int.natAbs_add_le (g w) (j.map g).sum;lia
def DU{t b:Nat}{o:bM}{a:xm}{B:Nat}(D:Shr s)(h:OfB m W U S o)(hc:S<=10^4)(H:W<=10^30)(G:U<=10^3)(u:a.length=m)(l:∀x∈a,x.natAbs<=10^t)(p:B<=10^b)(lt:t<=2000)(C:b<=2000):p6 s o a B/\Bq (gZ s a B o)/\Bd (((gZ s a B o).den:Int)*(B:Nat)):=by
 obtain⟨q,y,v,F⟩:=h.cq;have z:b_ 1 (o.ways.map (·.2))<=10^4:=aL (UX y (jU _ (U1 _) λr E=>by
  obtain⟨w,hw,rfl⟩:=YV.mp E;exact F w hw)) (aL v hc)
 have A:=eE (o.ways.map (·.2)) VU;have sz:=Ez D;have i:Rz 30 3 o.pay:=⟨aL h.pn H,aL h.pd G⟩;have I:Rz b 0 (B:Rat):=⟨p,aG 1⟩;have part:∀w∈o.ways,(w.2.num*((b_ 1 (o.ways.map (·.2))/w.2.den:Nat):Int)).natAbs<=10^8:=λw hw=>by
  rw[VW,X0];exact aL (W1 (oD h hc hw).1 (aL (Q1 _ _) z)) wf
 have top:∀k,(a.getD k 0).natAbs<=10^t:=λk=>by
  rw[au];cases e:a[k]? with
  |none=>exact aZ _
  |some x=>exact l x (aC e)
 have g:Rz (t+11) 4 (Jr o.ways a):=by
  rw[<- Q5 A a o.ways λw hw=>(jE _).2 _ (YV.mpr ⟨w,hw,rfl⟩)];refine Tc wp ?_ (by rwa[T2]);refine aL (Z2 _ (10^8*10^t) o.ways λw hw=>?_) ?_
  .rw[VW];exact W1 (part w hw) (top w.1)
  .refine aL (kl _ h.few) ?_;rw[show(1000:Nat)=10^3 from rfl,<- Nat.mul_assoc,<- UY,<- UY];exact XG wf wp
 have f:=i.mul I;have d:=sz.mul g;have j:=f.add d (k:=2100) wp wp;refine⟨⟨⟨h.few,λw hw=>by rw[u];exact h.lt w hw,λw hw=>((oD h hc hw).bq wf wf).1,uQ (n:=4) (by rwa[X0]) wf,λx c=>?_,λx c=>uQ (l x c) (aL lt wf)⟩,i.bq wf wf,sz.bq wf wf,uQ (n:=b) (by rwa[X0]) (aL C wf),g.bq wp wf,sz.dd g wf,f.bq wp wf,d.bq wp wf,f.dd d wf⟩,j.bq wf wf,uQ (n:=9+b) (by rw[VW,X0,X0,UY];exact W1 j.2 p) wp⟩;unfold tops at c;rw[WJ]at c;obtain⟨w,hw,rfl⟩:=YV.mp c;exact uQ (n:=8) (part w hw) wf
theorem EQ{c:Nat}(i:1<=c):∀{l:zD},(∀g∈l,g.length<=c)->(vf l).length<=c^l.length
 |[],_=>aG 1
 |g::l,h=>by
  have f:=EQ i (l:=l) λx j=>h x (aJ _ j);have b:∀(e:zS),((e.map λd=>(vf l).map λC=>d::C).flatten).length=e.length*(vf l).length:=λe=>by
   induction e with
   |nil=>simp
   |cons a e f=>rw[map_cons,flatten_cons,aA,ak,f,length_cons,add_mul,Nat.one_mul,Nat.add_comm]
  unfold vf;rw[b,length_cons,pow_succ,JU];refine W1 f ?_;split
  .exact i
  .rw[ak,WH];exact h g (aO ..)
def EL{l:zD}{e:Nat}(g:Shr s)(c:l.length<=100)(i:∀f∈l,∀o∈f,OfB l.length W U S o)(J:1<=U)(I:1<=S)(w:S<=10^4)(G:W<=10^30)(F:U<=10^3)(H:N=(W+1)*(100*S*U))(j:(2*l.length*N)^l.length<=10^e)(v:e<=600)(B:N<=NN)(le:e+e*l.length<=2000)(h:(vf l).length<sizeLine):fx s l N:=by
 have D:(2*l.length*N)^l.length<=NN:=aL j (XG wf v);refine⟨g.lo,g.hi,c,λf m o k=>let b:=i f m o k;⟨b.lt,b.nn,b.one⟩,λC K=>Se g c i J I w H D B K,λA y q=>?_,h⟩;have p:∀r∈A,r.num.natAbs<=10^e:=λr a=>aL (q r a).n j;have z:∀r∈A,r.den<=10^e:=λr a=>aL (q r a).d j;have u:b_ 1 A<=10^(e*l.length):=by
  have:=Yc A 1 (10^e) (pow_pos wf) z;rw[Nat.one_mul,y,<- Nat.pow_mul]at this;exact this
 refine⟨by lia,λr a=>uQ (p r a) (aL v wf),uQ (n:=e*l.length) (by rwa[X0]) wp,λf m o k=>DU (t:=e+e*l.length) (b:=e*l.length) g (i f m o k) w G F (by unfold tops;rwa[ak]) (λx E=>?_) u (by omega) wp⟩;obtain⟨r,a,rfl⟩:=YV.mp E;rw[VW,X0,UY];exact W1 (p r a) (aL (Q1 _ _) u)
def OI(h:m<=6):(2*m*((10^30+1)*(100*4000*1000)))^m<=10^246:=by
 obtain rfl|rfl|rfl|rfl|rfl|rfl|rfl:m=0\/m=1\/m=2\/m=3\/m=4\/m=5\/m=6:=by lia
 all_goals decide +kernel
def XB(h:m<=8):(2*m*((9+1)*(100*1*1)))^m<=10^40:=by
 obtain rfl|rfl|rfl|rfl|rfl|rfl|rfl|rfl|rfl:m=0\/m=1\/m=2\/m=3\/m=4\/m=5\/m=6\/m=7\/m=8:=by lia
 all_goals decide +kernel
def cu(m:Nat)(t:xk):Prop:=m<=6\/(m<=8/\∀a∈t,∀d∈a,d.pay.den=1/\d.pay.num.natAbs<=9/\∀p∈d.prs,p.2=1)
def _p{t:xk}{l:zD}(f:Shr s)(hd:DSk m 4 t)(i:cu m t)(c:oJ t l):∃N,fx s l N:=by
 have b:l.length=m:=by rw[c.len,hd.len]
 have o:∀p∈l,p.length<=4:=λos n=>by
  obtain⟨k,g⟩:=aV n;have d:k<t.length:=by rw[<- c.len];exact(ao.mp g).1
  obtain⟨q,_,rfl⟩:=c.at_ k _ os (aj d) g;have:=hd.few _ (aU d);rw[ak,VZ];lia
 have C:=EQ (by decide:1<=4) o;rcases i with h|⟨h,j⟩
 .have a:4^l.length<=4^8:=XG wf wp;exact⟨_,EL (e:=246) f wp (by rw[b];exact ZK hd c) wf wf wf wf wf rfl (OI (aL (WG b) h)) wf (by decide +kernel) (by have:246*l.length<=246*6:=TH _ (aL (WG b) h);lia) (Y3 (aL C a) wf)⟩
 .have a:4^l.length<=4^8:=XG wf (aL (WG b) h);exact⟨_,EL (e:=40) f wp (by rw[b];exact Wo hd j c) wf wf wf wf wf rfl (XB (aL (WG b) h)) wf (by decide +kernel) (by have:40*l.length<=40*8:=TH _ (aL (WG b) h);lia) (Y3 (aL C a) wf)⟩
def vU:ST:=λa q=>∃u:xz,a=[.lst (u.map aa)]/\(∀x∈u,Bq x)/\(u=[]->q (.fz .non))/\∀m,m∈u->(∀x∈u,x<=m)->q (.fz (aa m))
def Ei(F:Fun K iG iG vK f G)(T:Txt K mg D)(k:ag P w K mg base 1 ni mj rZ):bW P w K mg base ab 2 f G iI (am K vU):=by
 refine F.okT Iv (λ_ _=>bF (bO 1 iB)
  (bF (eV (cI wn) (cB (n:=99) 2)
  (bH (cG (QW.qt (g8 (cj Ba we iB) (eX (cN (bI k (bx we (bx wa bC)))))))
  (bH (bO 1 wa))
  bQ)))
  (bH (bN we)))) ?_
 rintro _ R ⟨u,rfl,h,i,q⟩;refine gG aa u (λd o=>(d=[]/\∃x,o=[.fz (.lst (u.map aa)),.fz .non,x])\/∃m x,o=[.fz (.lst (u.map aa)),.fz (aa m),x]/\m∈d/\∀x∈d,x<=m) (.inl ⟨rfl,_,rfl⟩) ?_ ?_
 .rintro d a r _ e (⟨rfl,x,rfl⟩|⟨m,x,rfl,c,g⟩)
  .exact .inr ⟨a,_,rfl,by simp,λx b=>by rw[show x=a by simpa using b];exact VQ⟩
  .have p:Bq a:=h a (e ▸ by simp);have l:Bq m:=h m (e ▸ U2 _ c);exact⟨m,a,rfl,l,p,c4 (λlt=>.inr ⟨a,_,rfl,by simp,λx b=>(Y1.mp b).elim (λz=>Tu (g x z) (Th lt)) λz=>by rw[YR.mp z];exact VQ⟩) λj=>.inr ⟨m,_,rfl,U2 _ c,λx b=>(Y1.mp b).elim (g x) λz=>by rw[YR.mp z];exact Rat.not_lt.mp j⟩⟩
 .rintro _ (⟨z,x,rfl⟩|⟨m,x,rfl,c,b⟩)
  .exact i z
  .exact q m c b
def Wm:ST:=λa q=>∃u:xz,a=[.lst (u.map aa)]/\(∀x∈u,Bq x)/\(u=[]->q (.fz .non))/\∀m,m∈u->(∀x∈u,m<=x)->q (.fz (aa m))
def acS(F:Fun K Ga Ga RQ f G)(T:Txt K mg D)(k:ag P w K mg base 1 ni mj rZ):bW P w K mg base ab 2 f G yx (am K Wm):=by
 refine F.okT acg (λ_ _=>bF (bO 1 iB)
  (bF (eV (cI wn) (cB (n:=99) 2)
  (bH (cG (QW.qt (g8 (cj Ba we iB) (eX (cN (bI k (bx wa (bx we bC)))))))
  (bH (bO 1 wa))
  bQ)))
  (bH (bN we)))) ?_
 rintro _ R ⟨u,rfl,h,i,q⟩;refine gG aa u (λd o=>(d=[]/\∃x,o=[.fz (.lst (u.map aa)),.fz .non,x])\/∃m x,o=[.fz (.lst (u.map aa)),.fz (aa m),x]/\m∈d/\∀x∈d,m<=x) (.inl ⟨rfl,_,rfl⟩) ?_ ?_
 .rintro d a r _ e (⟨rfl,x,rfl⟩|⟨m,x,rfl,c,g⟩)
  .exact .inr ⟨a,_,rfl,by simp,λx b=>by rw[show x=a by simpa using b];exact VQ⟩
  .have p:Bq a:=h a (e ▸ by simp);have l:Bq m:=h m (e ▸ U2 _ c);exact⟨a,m,rfl,p,l,c4 (λlt=>.inr ⟨a,_,rfl,by simp,λx b=>(Y1.mp b).elim (λz=>Tu (Th lt) (g x z)) λz=>by rw[YR.mp z];exact VQ⟩) λj=>.inr ⟨m,_,rfl,U2 _ c,λx b=>(Y1.mp b).elim (g x) λz=>by rw[YR.mp z];exact Rat.not_lt.mp j⟩⟩
 .rintro _ (⟨z,x,rfl⟩|⟨m,x,rfl,c,b⟩)
  .exact i z
  .exact q m c b
def Dd:ST:=λa q=>∃m:Nat,a=[.int (m:Nat)]/\m<=40/\q (.fz .non)
def Oe(F:Fun K o9 o9 wN f G)(T:Txt K mg D)(a:ag P w K mg base 1 gO fL jA):bW P w K mg base ab 2 f G lO (am K Dd):=by
 refine F.okT Nx (λ_ _=>bH (cG (QW.qt (g8 (cX (cN (bI a (bx wn bC)))) (eX (cX (FW CG CG bA wn (Nk T.adv λ_=>.int _))))))
  (bH eZ)
  bQ)) ?_
 rintro _ R ⟨m,rfl,h,q⟩;refine⟨_,_,rfl,rfl,?_⟩;show sw (!decide ((m:Int)<=40)) _ _;rw[Zs (show(m:Int)<=40 by lia)];exact q
def F_:Option Rat->T
 |none=>.non
 |some a=>aa a
def IE(r:Option Rat)(B:Nat):Rat:=match r with|none=>0|some a=>a/(B:Rat)
def Mh:ST:=λb q=>∃(r:Option Rat)(B:Nat),b=[F_ r,.int (B:Nat)]/\0<B/\Bd (B:Int)/\(∀a,r=some a->Bq a/\Bd ((a.den:Int)*(B:Nat)))/\q (.fz (aa (IE r B)))
def M5(F:Fun K wQ wQ HX f G)(T:Txt K mg D)(b:ag P w K mg base 3 Bw w6 J8):bW P w K mg base ab 4 f G sG (am K Mh):=by
 refine F.okT X7 (λ_ _=>bH (bN (Ql (cj Ba wn iB) (lF T.iY T.gA) (bI b (bx wn (bx (dB (bx we (bx bA bC))) bC)))))) ?_;rintro _ R ⟨r,B,rfl,i,g,h,q⟩;cases r with
 |none=>exact q
 |some a =>
  obtain⟨e,d⟩:=h a rfl;have c:((B:Nat):Rat)≠0:=λz=>by
   have:=Rat.intCast_eq_zero_iff.mp (show(((B:Nat):Int):Rat)=0 from z);lia
  exact⟨a,(B:Rat),rfl,c,e,⟨g,hh.2⟩,d,q⟩
def ZR(a:List bM)(g:bM->Rat)(v:Rat):Prop:=(a=[]->v=0)/\(a≠[]->∃o∈a,v=g o)/\∀o∈a,g o<=v
structure ge(s:Rat)(l:zD)(A M:xz):Prop where
 len:M.length=l.length
 top:∀(k:Nat)ds,l[k]?=some ds->ZR ds (JL s λj=>A.getD j 0) (M.getD k 0)
def gW(D:a'):ST:=λa q=>∃(s:Rat)(d:Φ)(l:zD)(A:xz),a=[bu D s d l,.lst (A.map aa)]/\yc d l/\kA s l A/\∀M:xz,ge s l A M->q (.l1 (M.map aa))
def OJ(F:Fun K jo jo qJ f G)(T:Txt K mg D)(gH:ag P w K mg base 2 p7 nZ vq)(gU:ag P w K mg base 4 jV iC (sU D))(fX:ag P w K mg base 2 iG iI vU)(BJ:ag P w K mg base 4 wQ sG Mh)(cR:OkI P w K mg base ab 1 D.Hall_size fD (am K (kj D)))(cJ:OkI P w K mg base ab 3 D.Hall_offers dX (am K (rF D))):bW P w K mg base ab 5 f G gY (am K (gW D)):=by
 refine F.okT Dg (λ_ _=>bF (bO 2 (bI gH (bx we bC)))
  (bF (kY 3 (eG bC))
  (bF (eV (fQ T.gJ (bx (u5 wn T.i_ T.nq cR (KS:=j8)) bC)) (cB (n:=99) 4)
  (bF (qP (bG qJ) wW wW ["offer"] (cI (Bh wn T.i_ T.jQ cJ (bx wE bC) (KS:=j8))) (d_ (i:=0)) cC (bI gU (bx we (bx wn (bx wP bC)))) (mD (i:=5) Dg.nd rfl (Or.inl rfl)))
  (bH (uD 3 (bI BJ (bx (bI fX (bx (qv 5) bC)) (bx (bJ wa bA) bC)))))))
  (bH (mG 3))))) ?_
 rintro _ R ⟨s,d,l,A,rfl,h,t,q⟩;have few:=h.few;have Q:=h.len;have B0:=eE A VU;have nz:((b_ 1 A:Nat):Rat)≠0:=λz=>by
  have:=Rat.intCast_eq_zero_iff.mp (show(((b_ 1 A:Nat):Int):Rat)=0 from z);lia
 have W:(0:Rat)<((b_ 1 A:Nat):Rat):=Rat.intCast_lt_intCast.mpr (show(0:Int)<(b_ 1 A:Nat)by lia);refine⟨A,rfl,t.few,t.num,t.lcm,⟨rfl,rfl⟩,s,d,l,rfl,⟨by lia,by lia⟩,yF (λk o=>∃(M:xz)(x y:OT),o=[.fz (bu D s d l),.fz (.lst (A.map aa)),.fz (.tup [.lst ((tops (b_ 1 A) A).map L2.T.int),.int (b_ 1 A:Nat)]),.l1 (M.map aa),x,y]/\M.length=k/\∀(i:Nat)p,i<k->l[i]?=some p->ZR p (JL s λj=>A.getD j 0) (M.getD i 0)) ⟨[],_,_,rfl,rfl,λi _ z=>absurd z (WU _)⟩ ?_ ?_⟩
 .rintro k _ S ⟨M,x,y,rfl,r,I⟩;have S:k<d.length:=by simpa using S
  have J:=aj (show k<l.length by lia);have u:=aC J;have G:=h.fews _ u;have E:=t.look _ u;have O:(M.map aa).length<sizeLine:=by rw[ak];exact aR (show _<1001 by lia) wf
  have U:∀v:Rat,ZR l[k] (JL s λj=>A.getD j 0) v->∃(C:xz)(x y:OT),[OT.fz (bu D s d l),.fz (.lst (A.map aa)),.fz (.tup [.lst ((tops (b_ 1 A) A).map L2.T.int),.int (b_ 1 A:Nat)]),.l1 (M.map aa++[aa v]),.fz (.int (k:Nat)),.fz (.lst (l[k].map λo=>aa (gZ s (tops (b_ 1 A) A) (b_ 1 A) o)))]=[.fz (bu D s d l),.fz (.lst (A.map aa)),.fz (.tup [.lst ((tops (b_ 1 A) A).map L2.T.int),.int (b_ 1 A:Nat)]),.l1 (C.map aa),x,y]/\C.length=k+1/\∀(i:Nat)p,i<k+1->l[i]?=some p->ZR p (JL s λj=>A.getD j 0) (C.getD i 0):=λv hv=>by
   refine⟨M++[v],_,_,by rw[bf];rfl,by simp[r],λi p Z L=>?_⟩;by_cases c:i=k
   .subst c;rw[J]at L;cases L;rwa[au,aD (WG r),r,Nat.sub_self]
   .rw[au,aF wp,<- au];exact I i p (XX (UZ Z) c) L
  have V:∀o,gZ s (tops (b_ 1 A) A) (b_ 1 A) o/((b_ 1 A:Nat):Rat)=JL s (λj=>A.getD j 0) o:=λo=>by rw[qX];grind
  refine⟨⟨rfl,rfl⟩,s,d,l,k,_,rfl,h,J,by rw[ak];exact aL G wf,comp_map cz (λo=>aa (gZ s (tops (b_ 1 A) A) (b_ 1 A) o)) l[k] (λo g N b hN=>⟨s,d,l,o,_,_,rfl,(E o g).1,hN⟩) ?_⟩;refine⟨l[k].map (gZ s (tops (b_ 1 A) A) (b_ 1 A)),by rw[WJ];rfl,λx H=>?_,λB=>?_,λm Y H=>?_⟩
  .obtain⟨o,g,rfl⟩:=YV.mp H;exact(E o g).2.1
  .have B:l[k]=[]:=List.map_eq_nil_iff.mp B;refine⟨none,b_ 1 A,rfl,B0,t.lcm,(λa z=>nomatch z),O,U 0 ⟨λ_=>rfl,λz=>absurd B z,λo g=>by rw[B]at g;cases g⟩⟩
  .obtain⟨o,g,rfl⟩:=YV.mp Y;refine⟨some (gZ s (tops (b_ 1 A) A) (b_ 1 A) o),b_ 1 A,rfl,B0,t.lcm,(λa z=>by cases z;exact(E o g).2),O,?_⟩;refine U _ ⟨(λz=>by rw[z]at g;cases g),λ_=>⟨o,g,V o⟩,λX cS=>?_⟩;have:=H _ (YV.mpr ⟨X,cS,rfl⟩);show _<=gZ s (tops (b_ 1 A) A) (b_ 1 A) o/((b_ 1 A:Nat):Rat);rw[V];rw[qX,qX]at this;exact Rat.le_of_mul_le_mul_right this W
 .rintro _ ⟨M,x,y,rfl,r,I⟩;have r:M.length=l.length:=by rw[Q,r];simp
  exact q M ⟨r,λk p e=>I k p (by have:=(ao.mp e).1;simp;exact aR this (WG Q)) e⟩
def qu:ST:=λa q=>∃m:Nat,a=[.int (m:Nat)]/\1<=m/\m<=40/\q (.fz .non)
def Jj(F:Fun K iV iV tG f G)(T:Txt K mg D)(a:ag P w K mg base 1 gO fL jA):bW P w K mg base ab 2 f G gB (am K qu):=by
 refine F.okT JG (λ_ _=>bH (cG (QW.qt (g8 (cX (cN (bI a (bx wn bC)))) (eX (cX (FW CG CG bA wn (Nk T.adv λ_=>.int _))))))
  (bH eZ)
  bQ)) ?_
 rintro _ R ⟨m,rfl,b,h,q⟩;refine⟨_,_,rfl,rfl,?_⟩;show sw (decide ((1:Int)<=m)) _ _;rw[Zs (show(1:Int)<=m by lia)];show sw (!decide ((m:Int)<=40)) _ _;rw[Zs (show(m:Int)<=40 by lia)];exact q
def lC(b a:xz):xz:=(a.zip b).map λp=>p.1-p.2
def Wc:ST:=λe q=>∃(d c:xz),e=[.lst (d.map aa),.lst (c.map aa)]/\c.length<=1000/\(∀a∈d,Rz 1200 1200 a)/\(∀b∈c,Rz 1200 1200 b)/\q (.l1 ((lC d c).map aa))
def _U(F:Fun K Gp Gp Kl f G)(T:Txt K mg D)(h:ag P w K mg base 3 pR m9 vA):bW P w K mg base ab 4 f G Ad (am K Wc):=by
 refine F.okT _x (λ_ _=>bH (bN (c7 (bG Kl) Rf Rf ["one","other"] (zJ T.Jg (bx we (bx wn bC))) (fH (n:=2) (bT (d_ (i:=0)) (bT (d_ (i:=1)) dN))) cC (bI h (bx wn (bx we bC)))))) ?_;rintro _ R ⟨g,e,rfl,a,k,j,q⟩;refine⟨?_,?_⟩
 .unfold xZ;rw[ak,VZ,ak,ak];exact aL (aL (min_le_left ..) a) wf
 rw[zip_map];refine comp_map (λp:Rat×Rat=>.tup [aa p.1,aa p.2]) (λp=>aa (p.1-p.2)) _ (λp d N M l=>?_) ?_
 .have c:=j _ (VX d).1;have b:=k _ (VX d).2;exact⟨rfl,p.1,p.2,rfl,c.bq wf wf,b.bq wf wf,c.dd b wf,l⟩
 .have:(lC g e).map aa=(e.zip g).map λp=>aa (p.1-p.2):=by unfold lC;rw[WJ];rfl
  rw[this]at q;exact q
def Vw(a:Shr s):1-s≠0/\0<1-s/\Rz 3 2 (1-s)/\(1-s).num.natAbs<=100:=by
 have h:=a.hi;have p:0<1-s:=by grind
 have d:(1-s).den<=100:=by rw[Qk];exact a.den
 have n:=Io (r:=1-s) (A:=1) (by have:=a.lo;rw[vo];grind) (by rw[vo];grind);exact⟨λz=>by rw[z]at p;exact absurd p wf,p,⟨by lia,by omega⟩,by lia⟩
def a8(s g:Rat):Rat:=s/(1-s)*g
theorem ZG(k:Shr s):Rz 4 4 (s/(1-s))/\(s/(1-s)).den ∣ s.den*(1-s).num.natAbs:=by
 obtain⟨j,p,z,n⟩:=Vw k;have e:s/(1-s)=divInt (s.num*(1-s).den) (s.den*(1-s).num):=by
  have l:s=((s.num:Int):Rat)/((s.den:Int):Rat):=by rw[<- UQ,rd]
  have g:1-s=(((1-s).num:Int):Rat)/(((1-s).den:Int):Rat):=by rw[<- UQ,rd]
  have u:((s.den:Int):Rat)≠0:=λz=>kZ s (Rat.intCast_eq_zero_iff.mp z);have r:(((1-s).den:Int):Rat)≠0:=λz=>kZ _ (Rat.intCast_eq_zero_iff.mp z);have q:(((1-s).num:Int):Rat)≠0:=λz=>j (by rw[g,z];grind);rw[UQ,XU,XU];generalize 1-s=t at *;generalize((s.num:Int):Rat)=a at *;generalize((s.den:Int):Rat)=b at *;generalize((t.num:Int):Rat)=c at *;generalize((t.den:Int):Rat)=d at *;rw[l,g]
  grind
 have f:0<(1-s).num:=by
  have l:=Rat.num_nonneg.mpr (Th p);have g:(1-s).num≠0:=λz=>j (Rat.num_eq_zero.mp z);lia
 have m:(0:Int)<s.den:=by have:=s.den_pos;lia
 have i:(0:Int)<s.den*(1-s).num:=XZ m f;have sz:=Ez k;rw[e];refine⟨Tc i ?_ ?_,?_⟩
 .rw[VW,X0];exact aL (W1 sz.1 z.2) wf
 .have:(s.den*(1-s).num:Int).toNat=s.den*(1-s).num.natAbs:=by
   have h:((1-s).num.natAbs:Int)=(1-s).num:=Int.natAbs_of_nonneg (XY f);rw[<- h,<- Ts,T2,h]
  rw[this];exact aL (W1 sz.2 n) wf
 .have:=Km (a:=s.num*(1-s).den) i;have o:(s.den*(1-s).num:Int).toNat=s.den*(1-s).num.natAbs:=by
   have h:((1-s).num.natAbs:Int)=(1-s).num:=Int.natAbs_of_nonneg (XY f);rw[<- h,<- Ts,T2,h]
  rwa[o]at this
def M7:ST:=λa q=>∃(s g:Rat),a=[aa s,aa g]/\Shr s/\Rz 2300 2300 g/\q (.fz (aa (a8 s g)))
def XR(F:Fun K wI wI Hl f G)(T:Txt K mg D)(i:ag P w K mg base 3 pR m9 vA)(d:ag P w K mg base 3 Bw w6 J8)(h:ag P w K mg base 3 uT sV Fy):bW P w K mg base ab 4 f G sI (am K M7):=by
 refine F.okT YQ (λ_ _=>bH (bN (bI h (bx (bI d (bx wn (bx (bI i (bx (lF T.Gm T.xq) (bx wn bC))) bC))) (bx we bC))))) ?_;rintro _ R ⟨s,g,rfl,b,c,q⟩;obtain⟨e,p,z,n⟩:=Vw b;have sz:=Ez b;have a:Rz 0 0 (1:Rat):=⟨aG _,aG _⟩;refine⟨1,s,rfl,a.bq wf wf,sz.bq wf wf,a.dd sz wf,s,1-s,rfl,e,sz.bq wf wf,z.bq wf wf,?_,s/(1-s),g,rfl,(ZG b).1.bq wf wf,c.bq wf wf,(ZG b).1.dd c wf,q⟩;refine uQ (n:=5) ?_ wf;rw[VW,X0];exact aL (W1 sz.2 n) wf
def jW:Expr:=match dZ jr with
 |[_,.Return (some (.Call _ [_,_,l] _ _)) _]=>l
 |_=>.Name "x" ⟨0,0,0,0⟩
def nr:Arguments:=match jW with|.Lambda a _ _ _=>a|_=>h_ jr
def nX:Expr:=match jW with|.Lambda _ b _ _=>b|_=>jW
def jn:Scope:=match jW with|.Lambda _ _ c _=>c|_=>bG jr
def eK:Pos:=match jW with|.Lambda _ _ _ p=>p|_=>⟨0,0,0,0⟩
abbrev YZ:Str:=(dJ++".<locals>.")++"<lambda>"
def N4(m:∀base,ag P w K mg base 5 jo gY (gW D)){a:Heap}{frees:Ζ}{f c i:Addr}{g l:Value}(j:a.get? f=some (kla_obj "<lambda>" YZ nr nX jn [("hall",i)] l c g))(hc:a.CodeRec (.ref c) YZ)(b:Cg a jn [("hall",i)] frees):ij P w K mg a 6 f ["ahead"] (jS K frees (gW D)):=by
 refine⟨_,_,N3 j hc rfl rfl rfl (by decide +kernel) rfl (λy n=>?_) b (λJ H Q E h=>h.1) (λA d s H v Q E o h=>?_),.all (λk e=>?_),j,rfl⟩
 .have:∀y∈jn.names,y.2=.free->y.1="hall":=by decide +kernel
  obtain rfl:y="hall":=this _ (PySem.mem_of_lookup n) rfl;exact⟨i,rfl⟩
 .obtain⟨_,h⟩:=h;cases b with
  |@cons _ _ p _ _ _ _ _ _ _ _ b =>
   cases b;refine⟨_,rK (m a) o.md (by rfl) (f9 (pv 1) (f9 (pv 0) zG)),?_⟩;exact⟨_,rfl,_,rfl,h⟩
 .match k,e with
  |[_],_=>rfl
structure RdL(s:Rat)(l:zD)(L:wv):Prop where
 first:L[0]?=some (replicate l.length 0)
 next:∀(k:Nat)A M,L[k]?=some A->L[k+1]?=some M->ge s l A M
def hA(s:Rat)(l:zD)(R:Nat):Prop:=∀L,RdL s l L->∀(k:Nat)A,k<R->L[k]?=some A->kA s l A
abbrev bp(A:xz):L2.T:=.lst (A.map aa)
def RdL.snoc{l:zD}(h:RdL s l L)(e:L.getLast?=some A)(g:ge s l A M):RdL s l (L++[M]):=by
 rw[km]at e;have a:=(ao.mp e).1;refine⟨by rw[aF wp];exact h.first,λk m j d b=>?_⟩;by_cases c:k+1<L.length
 .rw[aF (UU (X2 _) c)]at d;rw[aF c]at b;exact h.next k m j d b
 .have f:=(ao.mp b).1;rw[aA,length_singleton]at f;have i:k=L.length-1:=by lia
  subst i;rw[aF a,e]at d;rw[aD (VS c),show L.length-1+1-L.length=0 by omega]at b;cases d;cases b;exact g
def Ph(s:Rat)(l:zD)(b:Addr):ST:=λa q=>∃R:Nat,a=[bp (replicate l.length 0),.int (R:Nat),.val (.ref b)]/\R<=40/\hA s l R/\∀L:wv,L.length=R+1->RdL s l L->q (.l1 (L.map bp))
def iP(K:Frag)(D:a')(frees:Ζ)(s:Rat)(d:Φ)(l:zD):L2.T->Hp->V->Prop:=λ_ F _=>bV K F frees [bu D s d l]
def HN{g:Addr}{frees:Ζ}(F:Fun K oY oY qj f G)(T:Txt K mg D)(r:ij P w K mg base 6 g ["ahead"] (jS K frees (gW D)))(s:Rat)(d:Φ)(l:zD)(h:yc d l):bW P w K mg base ab 7 f G j9 (gp K (iP K D frees s d l) 2 (Ph s l g)):=by
 have n:∀F u,iP K D frees s d l (.val (.ref g)) F u->bV K F frees [bu D s d l]:=λ_ _ h=>h;refine F.okG 2 (λ_ F V _ S h=>bV.same S h) Hj (λJ a y=>by obtain⟨_,e,_⟩:=y;exact e ▸ rfl) λU b i N H E x=>?_;refine⟨_,(bF (kY 3 (eG (bx wn bC)))
  (bF (GZ (cj CG (Lw 3 (bY eF T.gk VY (bx wP bC))) we)
  (bH (uD 3 (aco 2 n r x.md (bx (uG 3 (ux bA)) bC)))))
  (bH (mG 3)))),?_⟩
 rintro _ t a B ⟨R,rfl,O,z,q⟩;cases B;refine⟨λm o=>∃L:wv,o=[.fz (bp (replicate l.length 0)),.fz (.int (R:Nat)),.gh (iP K D frees s d l (.val (.ref g))) (.val (.ref g)),.l1 (L.map bp)]/\RdL s l L/\0<L.length/\m+L.length=R+1,⟨R,[replicate l.length 0],rfl,⟨rfl,λk A M _ e=>by cases k<;>cases e⟩,VU,rfl⟩,?_⟩;rintro m _ ⟨L,rfl,j,I,Q⟩;refine⟨trivial,?_⟩;show sw (decide (((L.map bp).length:Int)<=(R:Nat))) _ _;rw[ak];refine c4 (λc=>?_) λc=>q L wp j;have C:=aj (show L.length-1<L.length by omega);have v:L.getLast?=some L[L.length-1]:=by rwa[km]
 refine⟨λo=>∃M:xz,o=[.fz (bp (replicate l.length 0)),.fz (.int (R:Nat)),.gh (iP K D frees s d l (.val (.ref g))) (.val (.ref g)),.l1 ((L++[M]).map bp)]/\ge s l L[L.length-1] M,?_,?_⟩
 .rintro _ ⟨M,rfl,p⟩;exact⟨m-1,by omega,L++[M],rfl,j.snoc v p,by simp,by rw[aA,length_singleton];lia⟩
 .refine⟨rfl,_,Bj v,s,d,l,_,rfl,h,z L j _ _ wp C,λM p=>⟨by rw[ak];exact aR (show _<1001 by lia) wf,M,?_,p⟩⟩;rw[bf]
  rfl
def fh(K:Frag)(D:a'):L2.T->Hp->V->Prop:=λt F u=>∃c,Cv D.T_best_rounds eK YZ F (some c)/\Rep K (wo [D.T_best_rounds,c] F) u t
def RX{K:Frag}{D:a'} : FB (fh K D):=λt F d u S ⟨c,a,r⟩=>⟨c,⟨S _ _ a.1,S _ _ a.2⟩,r.same λb w e=>by
 obtain⟨n,e⟩:=xH e;rw[yU n];exact S _ _ e⟩
def Nn{K:Frag}{F G:Hp}{a:Addr}{c:Ζ}(h:SqT K F a c)(e:∀b u,(∀t,u≠HO.tbl t)->(∀d,u≠HO.ext d)->F b=some u->G b=some u):SqT K G a c:=by
 rcases h with h|h
 .exact .inl (h.imp (e _ _ (λ_ z=>nomatch z) λ_ z=>nomatch z) λf=>by obtain⟨o,r⟩:=f;exact⟨o,e _ _ (λ_ z=>nomatch z) (λ_ z=>nomatch z) r⟩)
 .exact .inr h
theorem Zq{K:Frag}{F G:Hp}(e:∀b c,(∀t,c≠HO.tbl t)->(∀f,c≠HO.ext f)->F b=some c->G b=some c):∀{A:Ζ}{u:xz},bV K F A (u.map aa)->bV K G A (u.map aa)
 |_,[],.nil=>.nil
 |_,r::_,.cons x y=>by
  obtain⟨q,g,rfl,s,d⟩:=x.tupI;cases d with
  |cons a d=>cases d with
   |cons b d =>
    cases d;cases a;cases b;exact .cons (.tup (Nn s e) (.cons (.int _) (.cons (.int _) .nil))) (Zq e y)
def BZ(K:Frag)(D:a'):Sp:=λJ H Q _=>∃(u:V)(R:Nat)(s:Rat)(d:Φ)(l:zD)(a:Ξ),J=[u,.int (R:Nat)]/\Cv D.T_best_rounds eK YZ H a/\Rep K (wo (D.T_best_rounds::a.toList) H) u (bu D s d l)/\yc d l/\R<=40/\hA s l R /\
 ∀(L:wv)H' c v,L.length=R+1->RdL s l L->z0 (wo (D.T_best_rounds::a.toList) H) (wo [D.T_best_rounds,c] H')->Cv D.T_best_rounds eK YZ H' (some c)->(∀b,a=some b->c=b)->NR K (λ_=>False) H H' v (.l1 (L.map bp))->Q v H'
def Jn(K:Frag)(D:a')(frees:Ζ)(b:Addr):Sp:=λJ H Q E=>∃a:Rat×Φ×{ l:zD // True },yc a.2.1 a.2.2.1/\gp K (iP K D frees a.1 a.2.1 a.2.2.1) 2 (Ph a.1 a.2.2.1 b) J H Q E
def _Q{e:Addr}{d:Pos}{a:Str}{o:Addr->Value->Obj}{n:xE}{g:Ζ->Addr->Sp}{m:TA}{D:Ends}(h:m σ H λJ l=>∃(f c:Addr)(frees:Ζ),l f=some (Vf f (o c))/\f≠c/\Cv e d a l (some c)/\(n.map λj=>σ[j]?)=frees.map (λv=>some (some v))/\g frees f J (wo [e,c,f] l) (λv i=>∀k,(∀b,b≠e->b≠c->k b=i b)->Cv e d a k (some c)->i e=none->i c=none->i f=none->D.rt v k) E0):vE (W7 e d a o n g m) D σ H:=h
def _r{t u:TS}{D:Ends}(h:t { D with nx:=u D } σ H):ia t u D σ H:=h
def KN{I:Addr}(F:Fun K dJ dJ jr f G)(hc:G.code=.ref I)(hC:codeHdIn K I D.T_best_rounds)(T:Txt K mg D)(hB:base.BuiltinsAt mg D.T_best_rounds)(n8:∀base,ag P w K mg base 5 jo gY (gW D))(w5:ag P w K mg base 2 o9 lO Dd)(cR:OkI P w K mg base ab 1 D.Hall_size fD (am K (kj D))):bW P w K mg base ab 8 f G dI (BZ K D):=by
 obtain⟨fR,fdR,FR,bR,mR⟩:=T.JH;refine F.okC hc KR (λJ H Q E h=>?_) (λA outer s0 H J Q E hr h=>?_)
 .obtain⟨o,v,_,_,_,_,rfl,_⟩:=h
  rfl
 .obtain⟨u,R,s,d,l,j,rfl,la,ru,h,kf,rb,q⟩:=h;refine⟨_,(lJ (wL (rK w5 hr.md (by rfl) (f9 (pv 1) zG)))
   (Ze (Rv (Yb (Pt:=D.T_best_rounds) (N:=eK) (qual:=YZ) (pm:=(mg "__name__").getD .none) (params:=nr) (body:=nX) (O:=jn) (cl:=[("hall",s0.zs+1)]) (js:=[0]) (spL:=λfrees=>jS K frees (gW D)) (spR:=Jn K D) (by rfl) mR FR.kp (.all bR) hr.md (λbi frees f V=>bW.ex λa=>bW.andL λh=>HN FR T V a.1 a.2.1 a.2.2.1 h) (λbi frees f c ctv ho hc hs=>N4 n8 ho hc hs) (by rfl) (λq hq=>by rw[YR.mp hq];exact⟨rfl,rfl,rfl⟩) wr (λq hq=>rfl)
    (f9 (bL cQ (eG (bx (lF T.iY T.gA) bC)) (u5 wn T.i_ T.nq cR (KS:=j8))) (f9 (pv 1) (f9 (SA (params:=nr) (body:=nX) (O:=jn) (N:=eK) hB rfl hC (by rfl)) zG))))))),?_⟩
  have few:=h.few;have hl:=h.len;have h0:=hl.symm ▸ few;refine _r ⟨_,rfl,[.int (R:Nat)],λx=>x=.fz .non,.cons (.int _) .nil,⟨R,rfl,kf,rfl⟩,?_⟩;rintro H1 _ _ rfl S1 _;dsimp only;refine _Q ?_;refine⟨λ_=>[],[.fz (bu D s d l),.fz (.int (R:Nat))],λx=>x=.l1 ((replicate l.length (0:Rat)).map aa),SR.start (.cons ((ru.same Fc).same S1) (.cons (.int _) .nil)) ji,?_,?_⟩
  .refine⟨⟨rfl,rfl⟩,s,d,l,rfl,⟨by lia,by lia,?_⟩,λz ez=>?_⟩
   .show 1*_<=_;exact aL (show _<=1000 by lia) wf
   .rw[ez,List.map_replicate,hl];show _=OT.l1 (replicate d.length (aa 0));rw[T2,List.flatten_replicate_singleton]
    rfl
  rintro Y _ _ rfl S3 n0;obtain⟨B0,nB0,l0,xs0,e0,rfl,el0,r0⟩:=n0;cases e0;have C:=S1.trans S3;have S:Cv D.T_best_rounds eK YZ Y j:=by
   cases j with
   |none=>exact C _ _ la
   |some c=>exact⟨C _ _ la.1,C _ _ la.2⟩
  have Z:∃t,Y D.T_best_rounds=some (.tbl t):=by
   cases j with
   |none=>exact⟨_,S⟩
   |some c=>exact⟨_,S.1⟩
  refine⟨_,rfl,j,S,λi c X ff fc c1 c2 la4 hf eo=>⟨i,c,[u],hf,fc,la4,rfl,?_⟩⟩;have N:z0 (wo (D.T_best_rounds::j.toList) Y) (wo [D.T_best_rounds,c,i] X):=λb u e=>by
   obtain⟨O,y⟩:=xH e;have m:b≠D.T_best_rounds:=λz=>O (by rw[z];exact aO);have k:b≠c:=λz=>by
    cases j with
    |none=>rw[z,c1 rfl]at y;cases y
    |some I=>exact O (by rw[z,c2 I rfl];simp)
   have p:b≠i:=λz=>by rw[z,ff]at y;cases y
   rw[yU (by simp;exact⟨m,k,p⟩),eo b m k p];exact y
  have SS:z0 (wo (D.T_best_rounds::j.toList) H) (wo [D.T_best_rounds,c,i] X):=λb u e=>by
   obtain⟨O,y⟩:=xH e;exact N b u (by rw[yU O];exact C _ _ y)
  have n:∀b u,(∀t,u≠.tbl t)->(∀φ,u≠.ext φ)->Y b=some u->wo [D.T_best_rounds,c,i] X b=some u:=λb u nt nx e=>N b u ((yU λz=>by
   rcases YU.mp z with z|z
   .obtain⟨t,ht⟩:=Z;rw[z,ht]at e;cases e;exact nt _ rfl
   .cases j with
    |none=>cases z
    |some I=>rw[YR.mp z,S.2]at e;cases e;exact nx _ rfl).trans e)
  have un:∀b u,wo [D.T_best_rounds,c,i] X b=none->b≠D.T_best_rounds->b≠c->b≠i->H b=some u->False:=λb u z m k p e=>by
   rw[yU (by simp;exact⟨m,k,p⟩),eo b m k p,C _ _ e]at z;cases z
  refine⟨⟨s,d,l,trivial⟩,h,.ref i,.val (.ref i),[bp (replicate l.length 0),.int (R:Nat),.val (.ref i)],λx=>∃L:wv,x=.l1 (L.map bp)/\L.length=R+1/\RdL s l L,rfl,rfl,.cons (ru.same SS) .nil,.cons (.lst (n _ _ (λ_ z=>nomatch z) (λ_ z=>nomatch z) el0) (Zq (λb u W U e=>n b u W U (cW e).2) r0)) (.cons (.int _) (.cons (.val _) .nil)),⟨R,rfl,kf,rb,λL g r=>⟨L,rfl,g,r⟩⟩,?_⟩;rintro H5 v _ ⟨L,rfl,g,rd⟩ S5 ⟨B,nB,sl⟩ H6 e6 la6 m k p;have M:z0 H5 (wo [D.T_best_rounds,c] H6):=λb u e=>by
   have W:b≠D.T_best_rounds:=λz=>by rw[z,m]at e;cases e
   have U:b≠c:=λz=>by rw[z,k]at e;cases e
   rw[yU (by simp;exact⟨W,U⟩),e6 b W U];exact e
  have S6:=M.trans Fc;refine q L H6 c v g rd (SS.trans (S5.trans M)) la6 c2 ⟨B,λa ha=>?_,sl.same (bU S6) S6⟩;have ne:=(sl.sole ha).ne;cases e:H a with
  |none=>rfl
  |some u=>exact(un a u (nB a ha) (λz=>ne (z ▸ m)) (λz=>ne (z ▸ k)) (λz=>ne (z ▸ p)) e).elim
abbrev pT(a b:Int):T:=.tup [.int a,.int b]
def df{a:Int}(c:0<b):divInt a b*(b:Rat)=(a:Rat):=by
 have:(b:Rat)≠0:=λz=>by have:=Rat.intCast_eq_zero_iff.mp z;lia
 rw[UQ]
 grind
def dH(a:0<b):(0:Rat)<(b:Rat):=Rat.intCast_lt_intCast.mpr a
def SG{a c d:Int}(e:0<b)(hd:0<d):divInt a b<divInt c d↔a*d<c*b:=by
 have j:=df (a:=a) e;have i:=df (a:=c) hd;have h:=dH e;have g:=dH hd;rw[<- Rat.intCast_lt_intCast,XU,XU,<- j,<- i];generalize divInt a b=x;generalize divInt c d=y;have f:(0:Rat)<(b:Rat)*(d:Rat):=Rat.mul_pos h g;rw[show x*(b:Rat)*(d:Rat)=x*((b:Rat)*(d:Rat))from Rat.mul_assoc ..,show y*(d:Rat)*(b:Rat)=y*((b:Rat)*(d:Rat))by grind];exact(Rat.mul_lt_mul_right f).symm
def div_eq{a c d:Int}(e:0<b)(hd:0<d):divInt a b=divInt c d↔a*d=c*b:=QQ (WP e) (WP hd)
abbrev VV:Nat:=10^32
structure YsB(A:xz):Prop where
 dn:∀y∈A,y.den<=10^580
 hi:∀y∈A,y<=(VV:Rat)
 lo:∀y∈A,-(VV:Rat)<=y
def YsB.num{A:xz}(h:YsB A){y:Rat}(a:y∈A):y.num.natAbs<=10^612:=by
 refine aL (Io (h.hi y a) (h.lo y a)) ?_;rw[show 10^612=VV*10^580 by unfold VV;rw[<- UY]];exact TH _ (h.dn y a)
def YsB.z(h:YsB A){y:Rat}(a:y∈A):Rz 612 580 y:=⟨h.num a,h.dn y a⟩
def YsB.get{A:xz}(h:YsB A)(k:Nat):Rz 612 580 (A.getD k 0)/\A.getD k 0<=(VV:Rat)/\-(VV:Rat)<=A.getD k 0:=by
 rw[au];cases e:A[k]? with
 |none=>exact⟨⟨aZ _,pow_pos wf⟩,by show(0:Rat)<=_;decide +kernel,by show _<=(0:Rat);decide +kernel⟩
 |some y=>have m:=aC e;exact⟨h.z m,h.hi y m,h.lo y m⟩
def oR(s:Rat)(y:Nat->Rat)(d:LD):Rat:=d.pay+s*dw d.prs y
def NM{C:Rat}(h:0<=C)(f:∀w∈j,0<=w.2)(d:(dw j λ_=>1)<=1)(g:∀k,y k<=C)(lo:∀k,-C<=y k):dw j y<=C/\-C<=dw j y:=by
 have a:=Zv (M:=C) (x:=y) (j:=j) λw e=>⟨f w e,g w.1⟩;have b:=Zv (M:=C) (x:=λk=>-(y k)) (j:=j) λw e=>⟨f w e,by have:=lo w.1;grind⟩;rw[Tf]at b;rw[<- Gh]at d;have c:Hz j*C<=1*C:=l6 d h;constructor<;>grind
def _s{t:xk}{l:zD}(a:oJ t l)(h:kv t C):cf l C:=by
 refine⟨by rw[h.len,a.len],λk d os g c=>?_⟩;have e:k<t.length:=by rw[<- a.len];exact(ao.mp c).1
 have b:=aj e;obtain⟨i,f,rfl⟩:=a.at_ k _ os b c;have:=h.ok k d _ g b;rw[ak,VZ,f,UV];exact this
open Rw (sg iz gw bZ iK jt Big sz)
def yX(s:Rat)(y:Nat->Rat)(t:xk)(C:zS)(k:Nat):Rat:=match(C.getD k none).bind λd=>(t.getD k [])[d]? with
 |none=>0
 |some d=>oR s y d
def JR{d:LD}{t:Str}(h:LDk m d):JL s y (S8 t d)=oR s y d:=by
 obtain⟨q,a,_,b⟩:=h.all;unfold JL oR;rw[(J_ a b).sum]
def _b{t:xk}{l:zD}(c:oJ t l)(k d:Nat):∃a:Str,(l.getD k [])[d]?=((t.getD k [])[d]?).map (S8 a):=by
 by_cases h:k<t.length
 .have f:=aj h;have e:=aj (show k<l.length by rwa[c.len]);obtain⟨g,b,i⟩:=c.at_ k _ _ f e;rw[au,au,f,e];show ∃a,(l[k]'(by rwa[c.len]))[d]?=(t[k][d]?).map (S8 a);rw[i,aq];by_cases hd:d<t[k].length
  .refine⟨g[d]' wp,?_⟩;rw[aj (show d<(g.zip t[k]).length by rw[VZ];lia),aj hd,getElem_zip]
   rfl
  .exact⟨⟨#[]⟩,by rw[aM (show(g.zip t[k]).length<=d by rw[VZ];lia),aM (show t[k].length<=d by exact VS hd)];rfl⟩
 .have f:t[k]?=none:=aM (VS h);have e:l[k]?=none:=aM (by rw[c.len];exact VS h);exact⟨⟨#[]⟩,by rw[au,au,f,e];rfl⟩
def Rg{t:xk}{l:zD}(hd:DSk m X t)(g:oJ t l)(h:k<C.length):o8 s y ((cb l C).getD k none)=yX s y t C k:=by
 have e:=aj h;rw[Cr e];unfold yX;rw[show C.getD k none=C[k]by rw[au,e];rfl];cases C[k]with
 |none =>
  show(0:Rat)+s*0=0
  grind
 |some d =>
  obtain⟨a,i⟩:=_b g k d;show o8 s y ((l.getD k [])[d]?)=match(t.getD k [])[d]? with|none=>0|some d=>oR s y d
  rw[i];cases b:(t.getD k [])[d]? with
  |none =>
   show(0:Rat)+s*0=0
   grind
  |some x =>
   have f:LDk m x:=by
    by_cases c:k<t.length
    .rw[au,aj c]at b;exact hd.ok _ (aU c) x (aC b)
    .have:t[k]?=none:=aM (VS c);rw[au,this]at b;cases b
   exact JR f
structure ma(s:Rat)(m:Nat)(t:xk)(A:xz):Prop where
 len:A.length=m
 le:∀(k:Nat)ds,t[k]?=some ds->∀d∈ds,oR s (λj=>A.getD j 0) d<=A.getD k 0
 no:∀k,k<m->t.getD k []=[]->A.getD k 0=0
def Wl{t:xk}(hd:DSk m X t)(h:ma s m t A)(c:kv t C)(n:k<m):yX s (λj=>A.getD j 0) t C k<=A.getD k 0:=by
 have l:k<t.length:=by rwa[hd.len]
 have b:=aj l;have i:k<C.length:=by rwa[c.len]
 have g:=aj i;have a:=c.ok k _ _ g b;have f:t.getD k []=t[k]:=by rw[au,b];rfl
 unfold yX;rw[f,show C.getD k none=C[k]by rw[au,g];rfl];cases e:C[k]with
 |none =>
  rw[e]at a;have:t[k].length=0:=of_decide_eq_true a;rw[h.no k n (by rw[f];exact List.length_eq_zero_iff.mp this)];exact VQ
 |some d =>
  rw[e]at a;have ld:d<t[k].length:=of_decide_eq_true a;show(match t[k][d]? with|none=>0|some d=>oR s _ d)<=_;rw[aj ld];exact h.le k _ b _ (aU ld)
def Op{M:Nat}{t:xk}{l:zD}(hd:DSk m X t)(n:oJ t l){F:xL}(h:Zb s l M C F){p:eQ}(e:F.getLast?=some p):ma s m t p.2:=by
 have w:p∈F:=List.mem_of_getLast? e;obtain⟨B,A,_⟩:=h.told.ok p w;have I:l.length=m:=by rw[n.len,hd.len]
 have y:=h.last p e;refine⟨by rw[A.1,I],λk i E x K=>?_,λk U R=>?_⟩
 .have S:k<t.length:=(ao.mp E).1;have lo:k<l.length:=by rwa[n.len]
  have r:=aj lo;obtain⟨u,T,g⟩:=n.at_ k i _ E r;have z:k<p.1.length:=by rwa[B.len]
  have f:=aj z;have q:=B.ok k _ _ f r;have v:l[k].length=i.length:=by rw[g,ak,VZ];lia
  obtain⟨j,G⟩:=aV K;have Q:j<i.length:=(ao.mp G).1;have d:j<l[k].length:=by rwa[v]
  have D:l[k][j]=S8 (u[j]' wp) x:=by
   have:(l[k])[j]?=some (S8 (u[j]' wp) x):=by
    rw[g,aq,aj (show j<(u.zip i).length by rw[VZ];lia),getElem_zip];rw[aj Q]at G;cases G
    rfl
   rw[aj d]at this;exact Option.some.inj this
  have P:=hd.ok i (aC E) x K;have a:=A.2 k lo;rw[Cr f]at a;cases H:p.1[k]with
  |none =>
   rw[H]at q;have:l[k].length=0:=of_decide_eq_true q;lia
  |some c =>
   rw[H]at f a;have J:c<l[k].length:=by rw[H]at q;exact of_decide_eq_true q
   obtain⟨b,L,N⟩:=y.some k c _ f r;rw[f]at L;cases L;have o:gZ s (tops (b_ 1 p.2) p.2) (b_ 1 p.2) l[k][j]<=gZ s (tops (b_ 1 p.2) p.2) (b_ 1 p.2) l[k][c]:=by
    rcases N with⟨le,_⟩|⟨lt,_⟩
    .have:=le _ (YV.mpr ⟨_,aU d,rfl⟩);rw[au,aq,aj J]at this;exact this
    .exact absurd lt (by grind)
   rw[qX,qX]at o;have V:=eE p.2 VU;have O:(0:Rat)<((b_ 1 p.2:Nat):Rat):=by
    have:((0:Int):Rat)<(((b_ 1 p.2:Nat):Int):Rat):=Rat.intCast_lt_intCast.mpr wp;exact this
   have o:=Rat.not_lt.mp λlt=>absurd o (Rat.not_le.mpr ((Rat.mul_lt_mul_right O).mpr lt));rw[D,JR P]at o;have a:p.2.getD k 0=o8 s (λk=>p.2.getD k 0) ((l.getD k [])[c]?):=a;rw[au (l:=l),r]at a;have a:p.2.getD k 0=o8 s (λk=>p.2.getD k 0) (l[k][c]?):=a;rw[aj J]at a;rwa[a]
 .have lo:k<l.length:=by rwa[I]
  have z:k<p.1.length:=by rwa[B.len]
  rw[A.2 k lo,Rg hd n z];unfold yX;rw[R];cases p.1.getD k none<;>rfl
def acU{t:xk}{l:zD}(q:0<=s)(p:s<1)(n:∀v∈l,∀o∈v,ck s l.length o.ways)(hd:DSk m X t)(d:oJ t l)(f:kv t C)(u:k_ s l C M)(h:ma s m t A):∀k,k<m->M.getD k 0<=A.getD k 0:=λk w=>by
 have r:l.length=m:=by rw[d.len,hd.len]
 have e:=_s d f;have:=sub_le (m:=l.length) (j:=λi=>lB ((cb l C).getD i none)) q p (Cd n e) (x:=λc=>M.getD c 0-A.getD c 0) (λi g=>by
  have a:=u.2 i g;have b:=Wl hd h f (k:=i) (aR g (WG r));rw[<- Rg hd d (by rwa[e.len])]at b;unfold o8 at a b;rw[DR];show M.getD i 0-A.getD i 0<=_
  grind) k wp
 grind
open Rw (sg iz gw bZ iK jt Big vr)
def Xw(h:Sys I N)(G:∀r∈I,sg (λj=>r.getD j 0*y j) I.length=r.getD I.length 0):∃D:Nat,0<D/\D<=(2*(I.length+1)*N)^I.length/\∀i,i<I.length->(y i).den ∣ D:=by
 have q:∀l,l<I.length->I.getD l []∈I:=λl m=>by
  rw[au,aj m];exact aU m
 obtain⟨a,⟨s,O,x⟩,K,E⟩:=Rw.Ym (p:=I.length) (N:=N) (C:=λk l=>(kE (I.getD l [])).1.getD k 0) h.one λk l P m=>by
  have B:=h.lev _ (q l m);rw[au];cases e:(kE (I.getD l [])).1[k]? with
  |none=>exact aZ _
  |some t=>exact B.top t (aC e)
 have u:∀r∈I,sg (λj=>r.getD j 0*(a j:Rat)) (I.length+1)=0:=λr d=>by
  obtain⟨l,A⟩:=aV d;have m:=(ao.mp A).1;have J:I.getD l []=r:=by rw[au,A];rfl
  have z:=E l m;rw[J]at z;have F:sg (λk=>((a k*(kE r).1.getD k 0:Int):Rat)) (I.length+1)=0:=by rw[<- Rw.Kf,z];rfl
  have Q:=eE r VU;have M:(((kE r).2:Int):Rat)≠0:=λw=>by
   have:(kE r).2=0:=Rat.intCast_eq_zero_iff.mp w;have:((b_ 1 r:Nat):Int)=0:=this;lia
  rw[bZ (g:=λk=>(1/(((kE r).2:Int):Rat))*((a k*(kE r).1.getD k 0:Int):Rat)) λj _=>?_,gw,F,Rat.mul_zero];rw[<- Kq r j,XU];unfold vr
  grind
 have b:∀(f:Nat->Rat),sg f (I.length+1)=sg f I.length+f I.length:=λf=>rfl;have Y:a I.length≠0:=λz=>by
  have:=h.inj (λj=>if j<I.length then(a j:Rat)else 0) (λj n=>ZZ (JY n)) λr d=>by
   refine(bZ λj n=>?_).trans (u r d);by_cases c:j<I.length
   .rw[ZY c]
   .rw[ZZ c,show j=I.length by lia,z];rfl
  by_cases c:s<I.length
  .have w:=this s c;rw[ZY c]at w;exact x (Rat.intCast_eq_zero_iff.mp w)
  .exact x (by rw[show s=I.length by lia];exact z)
 have H:∀i,i<I.length->(a I.length:Rat)*y i+(a i:Rat)=0:=λi o=>by
  have:=h.inj (λj=>if j<I.length then(a I.length:Rat)*y j+(a j:Rat)else 0) (λj n=>ZZ (JY n)) (λr d=>by
   rw[b,ZZ (Wp _),Rat.mul_zero,Rat.add_zero];rw[bZ (g:=λj=>(a I.length:Rat)*(r.getD j 0*y j)+r.getD j 0*(a j:Rat)) λj n=>by rw[ZY n];grind,iz,gw,G r d];have:=u r d;rw[b]at this
   grind) i o
  rw[ZY o]at this;exact this
 have v:0<(a I.length).natAbs:=by lia
 refine⟨(a I.length).natAbs,v,K _,λi o=>(vI v).mpr ?_⟩;have e:=H i o;have L:(a I.length:Rat)≠0:=λz=>Y (Rat.intCast_eq_zero_iff.mp z);rcases Int.natAbs_eq (a I.length)with c|c
 .refine⟨-(a i),?_⟩;rw[<- c,UQ,Rat.intCast_neg]
  grind
 .refine⟨a i,?_⟩;rw[show(((a I.length).natAbs:Nat):Int)=-(a I.length)by lia,UQ,Rat.intCast_neg]
  grind
def Shr.left(h:Shr s):(1:Rat)<=(1-s)*100:=by
 have e:=(one_sub (a:=s.num) (b:=(s.den:Nat)) (kZ s));rw[rd]at e;have d:=(lt_iff s 1).mp h.hi;have d:s.num*((1:Nat):Int)<1*(s.den:Int):=d;have hd:=h.den;have i:=s.den_pos;have m:=df (a:=(s.den:Int)-s.num) (b:=(s.den:Nat)) wp;rw[<- e]at m;have a:((1:Int):Rat)<=(((s.den:Int)-s.num:Int):Rat):=Rat.intCast_le_intCast.mpr wp;have b:(((s.den:Nat):Int):Rat)<=((100:Int):Rat):=Rat.intCast_le_intCast.mpr wp;have p:(0:Rat)<=1-s:=by have:=h.hi;grind
 have c:=UH b p;have g:((1:Int):Rat)=1:=rfl;have f:((100:Int):Rat)=100:=rfl;rw[m]at c;rw[g]at a;rw[f]at c;exact Tu a c
def Vx{A:Nat}(h:r.num.natAbs<=A):r<=(A:Rat)/\-(A:Rat)<=r:=by
 have a:=r.den_pos;constructor
 .refine(le_iff r (A:Rat)).mpr ?_;show r.num*((1:Nat):Int)<=(A:Int)*(r.den:Int);have:(A:Int)*1<=(A:Int)*(r.den:Int):=Int.mul_le_mul_of_nonneg_left wp (WZ _);omega
 .refine(le_iff (-(A:Rat)) r).mpr ?_;show -(A:Int)*(r.den:Int)<=r.num*((1:Nat):Int);have:(A:Int)*1<=(A:Int)*(r.den:Int):=Int.mul_le_mul_of_nonneg_left wp (WZ _);rw[Int.neg_mul];omega
def acW{p x:Rat}(c:Shr s)(f:p.num.natAbs<=10^30)(h:x<=(VV:Rat))(g : -(VV:Rat)<=x):p+s*x<=(VV:Rat)/\-(VV:Rat)<=p+s*x:=by
 obtain⟨a,b⟩:=Vx f;have l:=c.left;have j:=UH h c.lo;have i:=UH g c.lo;have v:(VV:Rat)=100*((10^30:Nat):Rat):=by decide +kernel
 have e:(0:Rat)<=((10^30:Nat):Rat):=by decide +kernel
 have d:=l6 l e;constructor<;>grind
def aay{c:Nat->xB}(n:Shr s)(q:∀i,i<m->CoB m W U S (c i))(D:W<=10^30)(t:∀i,i<m->y i=o8 s y (c i)):∀i,i<m->y i<=(VV:Rat)/\-(VV:Rat)<=y i:=λi o=>by
 have z:(0:Rat)<=(VV:Rat):=by decide +kernel
 have p:∀(C:Rat)(j:zI),dw j (λ_=>C)=C*Hz j:=λC j=>by
  induction j with
  |nil=>show(0:Rat)=C*0;grind
  |cons w j B=>rw[cZ,Bg,B];grind
 have l:=n.left;have v:(VV:Rat)=100*((10^30:Nat):Rat):=by decide +kernel
 have A:(0:Rat)<=((10^30:Nat):Rat):=by decide +kernel
 have d:=l6 l A;have u:∀k,k<m->(pL (c k)<=((10^30:Nat):Rat)/\-((10^30:Nat):Rat)<=pL (c k))/\s*((VV:Rat)*Hz (lB (c k)))<=s*(VV:Rat):=λk h=>by
  refine⟨Vx (aL (q k h).pn D),?_⟩;have r:=(CoB.sh (s:=s) (q k h)).one;have:=UH r z;have:=UH this n.lo
  grind
 constructor
 .have:=sub_le (m:=m) (j:=λi=>lB (c i)) n.lo n.hi (λi o=>(q i o).sh) (x:=λf=>y f-(VV:Rat)) (λk h=>by
   rw[DR,p];have e:=t k h;unfold o8 at e;obtain⟨⟨a,b⟩,g⟩:=u k h;show y k-(VV:Rat)<=_
   grind) i o
  grind
 .have:=sub_le (m:=m) (j:=λi=>lB (c i)) n.lo n.hi (λi o=>(q i o).sh) (x:=λf=>-(y f)-(VV:Rat)) (λk h=>by
   rw[DR (λf=>-(y f)),p,Tf];have e:=t k h;unfold o8 at e;obtain⟨⟨a,b⟩,g⟩:=u k h;show -(y k)-(VV:Rat)<=_
   grind) i o
  grind
def Ib:ST:=λe q=>∃a b c d:Int,e=[pT a b,pT c d]/\0<b/\0<d/\(Bd a/\Bd b/\Bd c/\Bd d)/\q (.fz (.bl (decide (divInt a b<divInt c d))))
def abF(F:Fun K zZ zZ RP f G):bW P w K mg base ab 1 f G uY (am K Ib):=by
 refine F.okT ad4 (λ_ _=>bH (bN (xK Cy (bL cQ (bJ wn bA) (bJ we bA)) (bL cQ (bJ we bA) (bJ wn bA))))) ?_;rintro _ R ⟨a,b,c,d,rfl,e,hd,⟨j,i,h,g⟩,q⟩;refine⟨⟨j,g⟩,⟨h,i⟩,?_⟩;rw[decide_eq_decide.mpr (SG e hd)]at q;exact q
def W3:ST:=λe q=>∃a b c d:Int,e=[pT a b,pT c d]/\0<b/\0<d/\(Bd a/\Bd b/\Bd c/\Bd d)/\q (.fz (.bl (decide (divInt a b=divInt c d))))
def adJ(F:Fun K Kg Kg dS f G):bW P w K mg base ab 1 f G Gq (am K W3):=by
 refine F.okT Ta (λe _=>bH (bN (xK (yA e.units) (bL cQ (bJ wn bA) (bJ we bA)) (bL cQ (bJ we bA) (bJ wn bA))))) ?_;rintro _ R ⟨a,b,c,d,rfl,g,hd,⟨k,j,i,h⟩,q⟩;refine⟨⟨k,h⟩,⟨i,j⟩,?_⟩;rw[decide_eq_decide.mpr (div_eq g hd)]at q;exact q
def rN(l:zD):zS:=l.map λa=>if 0<a.length then some 0 else none
def zj(l:zD):cf l (rN l):=by
 refine⟨ak ..,λk d b a c=>?_⟩;unfold rN at a;rw[aq,c]at a;cases a;show PK (if 0<b.length then some 0 else none) b.length=true;split
 .rename_i h;exact Zs h
 .rename_i h;exact Zs wp
def uM(D:a'):ST:=λa q=>∃(s:Rat)(d:Φ)(l:zD),a=[bu D s d l]/\yc d l/\q (.l1 ((rN l).map dT))
def Nr(F:Fun K lQ lQ q_ f G)(T:Txt K mg D)(m:OkI P w K mg base ab 1 D.Hall_size fD (am K (kj D)))(n:OkI P w K mg base ab 3 D.Hall_offers dX (am K (rF D))):bW P w K mg base ab 4 f G jm (am K (uM D)):=by
 refine F.okT O9 (λ_ _=>bH (bN (c7 (bG q_) xg xg ["room"] (fQ T.gJ (bx (u5 wn T.i_ T.nq m (KS:=j8)) bC)) (d_ (i:=0)) cC (Ql (cj IK (bY eF T.gk VY (bx (Bh we T.i_ T.jQ n (bx wn bC) (KS:=j8)) bC)) bA) bA iB)))) ?_;rintro _ R ⟨s,d,l,rfl,h,q⟩;have g:=h.few;have o:=h.len;have j:(range d.length).map (λk=>dT (if 0<(l.getD k []).length then some 0 else none))=(rN l).map dT:=by
  refine List.ext_getElem? λk=>?_;unfold rN;rw[aq,aq,aq];by_cases b:k<d.length
  .rw[Up b,aj (show k<l.length by lia)];show some (dT (if 0<(l.getD k []).length then some 0 else none))=some (dT (if 0<l[k].length then some 0 else none));rw[show l.getD k []=l[k]by rw[au,aj (show k<l.length by lia)];rfl]
  .rw[aM (by rw[WH];exact VS b),aM (show l.length<=k by lia)]
   rfl
 refine⟨⟨rfl,rfl⟩,s,d,l,rfl,⟨by lia,by lia⟩,by rw[rng,ak,WH];exact aL (show _<=1000 by lia) wf,Sw (λk=>dT (if 0<(l.getD k []).length then some 0 else none)) d.length (λk b N M a=>?_) ?_⟩
 .have e:=aj (show k<l.length by lia);rw[au,e]at a;have a:N (dT (if 0<l[k].length then some 0 else none)):=a;refine⟨⟨rfl,rfl⟩,s,d,l,k,_,rfl,h,e,?_⟩;by_cases c:0<l[k].length
  .rw[ZY c]at a;exact fe (Zs (by rw[ak];lia)) a
  .rw[ZZ c]at a;exact dy (Zp (by rw[ak];lia)) a
 .rw[j];exact q
def Ni(D:a'):ST:=λa q=>∃(s:Rat)(d:Φ)(l:zD)(N:Nat),a=[bu D s d l]/\yc d l/\fx s l N/\∀(F:xL)(p:eQ),Zb s l ((2*l.length*N)^l.length) (rN l) F->F.getLast?=some p->q (.fz (hL p))
def Xj(F:Fun K wu wu Hg f G)(T:Txt K mg D)(b:ag P w K mg base 4 lQ jm (uM D))(c:ag P w K mg base 10 tZ pW (Iz D)):bW P w K mg base ab 11 f G sS (am K (Ni D)):=by
 refine F.okT W_ (λ_ _=>bH (bN (bJ (bI c (bx wn (bx (bI b (bx wn bC)) bC))) (ux bA)))) ?_;rintro _ R ⟨s,d,l,N,rfl,h,B,q⟩;refine⟨s,d,l,rfl,h,s,d,l,rN l,N,rfl,h,zj l,B,λF a=>?_⟩;cases e:F.getLast? with
 |none=>exact absurd (List.getLast?_eq_none_iff.mp e) a.ne
 |some p=>exact⟨_,Bj e,q F p a e⟩
def Hx(s:Rat)(m:Nat)(t:xk)(C:zS)(A:xz):xz:=(range m).map λk=>yX s (λj=>A.getD j 0) t C k
def aaz{t:xk}(a:k<m):(Hx s m t C A).getD k 0=yX s (λj=>A.getD j 0) t C k:=by
 unfold Hx;rw[au,aq,Up a]
 rfl
open Rw (sg iz gw bZ iK jt Big vr)
structure YsK(e:Nat)(A:xz):Prop where
 cm:∃L:Nat,0<L/\L<=10^e/\∀y∈A,y.den ∣ L
 hi:∀y∈A,y<=(VV:Rat)
 lo:∀y∈A,-(VV:Rat)<=y
def aaQ{a:xp}(h:Br s a y):∀r∈EY (Dy s a) (a.map pL),sg (λj=>r.getD j 0*y j) a.length=r.getD a.length 0:=λr b=>by
 obtain⟨i,d,rfl⟩:=Ke b;rw[eh,<- h i d];exact bZ λj c=>ZH (· * y j) (YM _ _ c)
def Yx{l:zD}(c:∀d∈l,∀o∈d,ck s l.length o.ways)(a:cf l C)(h:k_ s l C M):Br s (cb l C) λk=>M.getD k 0:=by
 have b:=Ho a;refine(G8 (by rw[b];exact Cd c a)).mpr λi e=>?_;exact h.2 i (by rwa[<- b])
def V2{l:zD}(g:∀n∈l,∀o∈n,ck s l.length o.ways)(c:cf l C)(h:Br s (cb l C) y):k_ s l C ((range l.length).map y):=by
 have e:((range l.length).map y).length=l.length:=by rw[ak,WH]
 have a:∀k,k<l.length->((range l.length).map y).getD k 0=y k:=λk m=>by rw[au,aq,Up m];rfl
 refine⟨e,λi b=>?_⟩;have f:=Cd g c;have d:=Ho c;rw[a i b,(G8 (by rwa[d])).mp h i (by rwa[d])];unfold o8;rw[Ml (x:=λk=>((range l.length).map y).getD k 0) (z:=y) λw j=>a w.1 ((f i b).lt w j)]
def mem_getD(l:A.length=m){y:Rat}(h:y∈A):∃k,k<m/\y=A.getD k 0:=by
 obtain⟨k,e⟩:=aV h;exact⟨k,by rw[<- l];exact(ao.mp e).1,by rw[au,e];rfl⟩
def Vi(h:m<=6):(2*(m+1)*((10^30+1)*(100*4000*1000)))^m<=10^244:=by
 obtain rfl|rfl|rfl|rfl|rfl|rfl|rfl:m=0\/m=1\/m=2\/m=3\/m=4\/m=5\/m=6:=by lia
 all_goals decide +kernel
def _z(h:m<=8):(2*(m+1)*((9+1)*(100*1*1)))^m<=10^244:=by
 obtain rfl|rfl|rfl|rfl|rfl|rfl|rfl|rfl|rfl:m=0\/m=1\/m=2\/m=3\/m=4\/m=5\/m=6\/m=7\/m=8:=by lia
 all_goals decide +kernel
def V8{l:zD}(m:Shr s)(g:l.length<=100)(h:∀e∈l,∀o∈e,OfB l.length W U S o)(B:1<=U)(A:1<=S)(x:W<=10^30)(z:N=(W+1)*(100*S*U))(j:(2*(l.length+1)*N)^l.length<=10^244)(v:N<=NN)(n:cf l C)(a:k_ s l C M):YsK 244 M:=by
 have f:=Ho n;have G:=C3 (C:=C) h;have u:∀e∈l,∀o∈e,ck s l.length o.ways:=λe E o w=>let b:=h e E o w;⟨b.lt,b.nn,b.one⟩;have I:(2*l.length*N)^l.length<=NN:=aL (Nat.pow_le_pow_left (kl _ wp) _) (aL j (XG wf wf));have t:=Zd m (cs:=cb l C) (aL (WG f) g) (by rwa[f]) B A z (by rwa[f]) v;have wo:=Yx u n a;obtain⟨D,F,q,p⟩:=Xw t (y:=λk=>M.getD k 0) (by rw[wV];exact aaQ wo);rw[wV,f]at q p;have H:∀i,i<l.length->CoB l.length W U S ((cb l C).getD i none):=λi J=>G _ (by rw[au,aj (by rwa[f])];exact aU _);have r:=aay m H x (y:=λk=>M.getD k 0) a.2;refine⟨⟨D,F,aL q j,λy c=>?_⟩,λy c=>?_,λy c=>?_⟩
 .obtain⟨k,d,rfl⟩:=mem_getD a.1 c;exact p k d
 .obtain⟨k,d,rfl⟩:=mem_getD a.1 c;exact(r k d).1
 .obtain⟨k,d,rfl⟩:=mem_getD a.1 c;exact(r k d).2
def ab5{t:xk}{l:zD}(d:Shr s)(hd:DSk m 4 t)(f:cu m t)(b:oJ t l)(e:cf l C)(c:k_ s l C M):YsK 244 M:=by
 have a:l.length=m:=by rw[b.len,hd.len]
 rcases f with h|⟨h,g⟩
 .exact V8 d wp (by rw[a];exact ZK hd b) wf wf wf rfl (Vi (aL (WG a) h)) (by decide +kernel) e c
 .exact V8 d wp (by rw[a];exact Wo hd g b) wf wf wf rfl (_z (aL (WG a) h)) (by decide +kernel) e c
def hW(f:Nat->Nat):Nat->Nat
 |0=>1
 |n+1=>hW f n*f n
theorem E1{f:Nat->Nat}{k:Nat} : ∀{m:Nat},k<m->f k ∣ hW f m
 |0,h=>absurd h (WU _)
 |m+1,h=>by
  by_cases c:k=m
  .rw[c];exact dvd_mul_left _ _
  .exact TR (E1 (show k<m by exact XX (UZ h) c)) (Nat.dvd_mul_right _ _)
theorem Xf{f:Nat->Nat}{c:Nat}(h:∀k,f k<=c):∀m,hW f m<=c^m
 |0=>aG 1
 |m+1=>by rw[pow_succ];exact W1 (Xf h m) (h m)
theorem R6{f:Nat->Nat}(h:∀k,0<f k):∀m,0<hW f m
 |0=>VU
 |m+1=>UP (R6 h m) (h m)
def dr(t:xk)(C:zS)(k:Nat):Option LD:=(C.getD k none).bind λd=>(t.getD k [])[d]?
def fk(t:xk)(C:zS)(k:Nat):Nat:=match dr t C k with
 |none=>1
 |some d=>b_ 1 (d.prs.map (·.2))*d.pay.den
def o2{t:xk}(hd:DSk m X t){d:LD}(e:dr t C k=some d):LDk m d/\∃b∈t,d∈b:=by
 unfold dr at e;cases a:C.getD k none with
 |none=>rw[a]at e;cases e
 |some c =>
  rw[a]at e;have e:(t.getD k [])[c]?=some d:=e;by_cases z:k<t.length
  .rw[au,aj z]at e;exact⟨hd.ok _ (aU z) d (aC e),_,aU z,aC e⟩
  .have:t[k]?=none:=aM (VS z);rw[au,this]at e;cases e
def D5(t:xk)(C:zS)(k:Nat):0<fk t C k:=by
 unfold fk;split
 .exact VU
 .exact UP (eE _ VU) (Rat.den_pos _)
def Mc{t:xk}(hd:DSk m X t)(i:cu m t)(C:zS):hW (fk t C) m<=10^40:=by
 rcases i with h|⟨h,o⟩
 .have:∀k,fk t C k<=4000*1000:=λk=>by
   unfold fk;cases e:dr t C k with
   |none=>exact TZ rfl
   |some d =>
    have c:=(o2 hd e).1;obtain⟨q,l,j,p⟩:=c.all;refine W1 (aL (UX l (jU _ (U1 _) λr b=>?_)) j) c.pay.den;obtain⟨x,a,rfl⟩:=YV.mp b;exact(p x a).2.2
  exact aL (Xf this m) (aL (XG wf h) (by decide +kernel))
 .have:∀k,fk t C k<=1:=λk=>by
   unfold fk;cases e:dr t C k with
   |none=>exact aG _
   |some d =>
    obtain⟨_,u,s,n⟩:=o2 hd e;obtain⟨g,_,f⟩:=o u s d n;show b_ 1 (d.prs.map (·.2))*d.pay.den<=1;rw[g,Nat.mul_one];exact UX VU (jU _ (U1 _) λr b=>by
     obtain⟨x,a,rfl⟩:=YV.mp b;rw[f x a];exact Qr 1)
  have:=Xf this m;rw[Nat.one_pow]at this;exact aL this (pow_pos wf)
theorem DJ{q L:Nat}(a:0<q)(b:0<L){y:Nat->Rat}(c:∀k,(y k).den ∣ L):∀{j:zI},(∀w∈j,w.2.den ∣ q)->(dw j y).den ∣ q*L
 |[],_=>U1 _
 |w::j,h=>by
  rw[cZ];exact Ab (UP a b) (dh a b (h w (aO ..)) (c w.1)) (DJ a b c λx d=>h x (aJ _ d))
def VC{e:Nat}{t:xk}(v:Shr s)(hd:DSk m X t)(B:cu m t)(C:zS)(h:YsK e A):YsK (e+42) (Hx s m t C A):=by
 obtain⟨L,n,D,F⟩:=h.cm;have G:∀k,(A.getD k 0).den ∣ L:=λk=>by
  rw[au];cases e:A[k]? with
  |none=>exact U1 _
  |some y=>exact F y (aC e)
 have x:∀k,A.getD k 0<=(VV:Rat)/\-(VV:Rat)<=A.getD k 0:=λk=>by
  rw[au];cases e:A[k]? with
  |none=>exact⟨by show(0:Rat)<=_;decide +kernel,by show _<=(0:Rat);decide +kernel⟩
  |some y=>exact⟨h.hi y (aC e),h.lo y (aC e)⟩
 have o:=s.den_pos;have l:∀k,yX s (λc=>A.getD c 0) t C k=match dr t C k with|none=>0|some d=>oR s (λc=>A.getD c 0) d:=λk=>rfl
 have z:∀k,yX s (λc=>A.getD c 0) t C k<=(VV:Rat)/\-(VV:Rat)<=yX s (λc=>A.getD c 0) t C k:=λk=>by
  rw[l];cases e:dr t C k with
  |none=>exact⟨by show(0:Rat)<=_;decide +kernel,by show _<=(0:Rat);decide +kernel⟩
  |some d =>
   have p:=(o2 hd e).1;have r:=NM (y:=λk=>A.getD k 0) (C:=(VV:Rat)) (by decide +kernel) (j:=d.prs) p.nn (by rw[xG,p.one];exact VQ) (λk=>(x k).1) λk=>(x k).2;exact acW v p.pay.num r.1 r.2
 refine⟨⟨L*(s.den*hW (fk t C) m),UP n (UP o (R6 (D5 t C) m)),?_,λy g=>?_⟩,λy g=>?_,λy g=>?_⟩
 .rw[UY,show 10^42=10^2*10^40 by rw[<- UY]];exact W1 D (W1 v.den (Mc hd B C))
 .obtain⟨k,i,rfl⟩:=YV.mp g;have i:=List.mem_range.mp i;have q:=E1 (f:=fk t C) i;rw[l];cases e:dr t C k with
  |none=>exact U1 _
  |some d =>
   have H:fk t C k=b_ 1 (d.prs.map (·.2))*d.pay.den:=by unfold fk;rw[e]
   rw[H]at q;have u:=eE (d.prs.map (·.2)) VU;have I:=d.pay.den_pos;have all:=UP n (UP o (R6 (D5 t C) m));show(d.pay+s*dw d.prs λc=>A.getD c 0).den ∣ _;refine Ab all ?_ ?_
   .exact TR (TR (dvd_mul_left _ _) q) (TR (dvd_mul_left _ _) (dvd_mul_left _ _))
   .have a:=dh o (UP u n) (Qr s.den) (DJ u n G (j:=d.prs) λw hw=>(jE _).2 _ (YV.mpr ⟨w,hw,rfl⟩));refine TR a ?_;obtain⟨b,E⟩:=q;exact⟨b*d.pay.den,by rw[E];grind⟩
 .obtain⟨k,i,rfl⟩:=YV.mp g;exact(z k).1
 .obtain⟨k,i,rfl⟩:=YV.mp g;exact(z k).2
def rJ(D:a'):ST:=λa q=>∃(s:Rat)(d:Φ)(l:zD)(R:Nat),a=[bu D s d l,.int (R:Nat)]/\yc d l/\R<=40/\hA s l R/\∀L:wv,L.length=R+1->RdL s l L->q (.l1 (L.map bp))
def Yv(j:dL P w K mg base 8 dJ dI (BZ K D)):hE P w K mg base (fh K D) 8 dJ dI (rJ D):=by
 obtain⟨f,G,F,b,C,A⟩:=j;refine⟨f,G,F.imp λJ H Q E h=>?_,b,C,A⟩;obtain⟨a,t,V,i,I,M,⟨c,m,x⟩,u,⟨s,d,l,R,rfl,h,B,y,z⟩,q⟩:=h;cases M;obtain⟨U,v,rfl,_,r⟩:=u.two;cases I;cases r;refine⟨a,R,s,d,l,some c,rfl,m,x,h,B,y,λL T O v g rd S k N n=>q T v _ (z L g rd) (λb w e=>?_) n⟩;obtain rfl:=N c rfl;by_cases p:b=D.T_best_rounds
 .subst p;rw[m.1]at e;cases e;exact k.1
 by_cases o:b=O
 .subst o;rw[m.2]at e;cases e;exact k.2
 exact(xH (S b w (by rw[yU (by simp;exact⟨p,o⟩)];exact e))).2
def Rz.neg{d:Nat}(h:Rz n d a):Rz n d (-a):=⟨by rw[Rat.neg_num,natAbs_neg];exact h.1,by rw[Rat.neg_den];exact h.2⟩
def MM{l:List Q}{g:Q->L2.T}{a:Q}(h:2<=l.length)(e:l[l.length-2]?=some a):ca (l.map g) (-2)=some (g a):=by
 show dj (l.map g).reverse 1=_;rw[qz,<- List.map_reverse,aq,List.getElem?_reverse (aR (X2 _) h),show l.length-1-1=l.length-2 by lia,e]
 rfl
def LJ(l:xz)(g:Rat):Prop:=g∈l/\∀x∈l,g<=x
def Na(l:xz)(g:Rat):Prop:=g∈l/\∀x∈l,x<=g
def h5(s:Rat)(a J lo b:xz):Prop:=∃g h:Rat,(J≠[]->LJ (lC a J) g/\Na (lC a J) h)/\lo=J.map (λv=>v+a8 s g)/\b=J.map λv=>v+a8 s h
def FC(s:Rat)(l:zD)(n:Nat):Prop:=∀L,RdL s l L->∀(k:Nat)A,k<=n->L[k]?=some A->A.length=l.length/\∀y∈A,Rz 640 610 y
def Fe(D:a'):ST:=λc q=>∃(s:Rat)(d:Φ)(l:zD)(n:Nat),c=[bu D s d l,.int (n:Nat)]/\yc d l/\Shr s/\1<=n/\n<=40/\hA s l n/\FC s l n /\
 ∀(L:wv)(a J lo b:xz),RdL s l L->L[n-1]?=some a->L[n]?=some J->h5 s a J lo b->q (.fz (.tup [bp lo,bp b]))
theorem RN(F:Fun K qY qY pZ f G)(T:Txt K mg D)(iD:ag P w K mg base 2 iV gB qu)(jg:hE P w K mg base (fh K D) 8 dJ dI (rJ D))(T7:ag P w K mg base 4 Gp Ad Wc)(Bs:ag P w K mg base 4 wI sI M7)(R7:ag P w K mg base 2 Ga yx Wm)(fX:ag P w K mg base 2 iG iI vU)(X:ag P w K mg base 3 BR vO Kc):bW P w K mg base ab 9 f G oK (gp K (fh K D) 0 (Fe D)):=by
 refine F.okG 0 RX RJ (λts R hP=>by obtain⟨_,_,_,_,e,_⟩:=hP;exact e ▸ rfl) λae A I s0 H E hr=>?_;refine⟨_,(bF (jy (bI iD (bx we bC)))
  (bF (bO 2 (Aq 0 jg hr.md (by rfl) (bx we bC)))
  (bF (bO 3 (bJ wa (ux bA)))
  (bF (cG (cj (yA hr.units) (bY eF T.gk VY (bx wP bC)) bA)
  (bH (bN (dB (bx (eG bC) (bx (eG bC) bC)))))
  bQ)
  (bF (bO 4 (bI T7 (bx (bJ wa (ux bA)) (bx wP bC))))
  (bF (bO 5 (bI Bs (bx (sE (Fm:=bb D) (λb h=>⟨T.cl b h,T.zX b h⟩) (iv 0)) (bx (bI R7 (bx wE bC)) bC))))
  (bF (bO 6 (bI Bs (bx (sE (Fm:=bb D) (λb h=>⟨T.cl b h,T.zX b h⟩) (iv 0)) (bx (bI fX (bx wE bC)) bC))))
  (bH (bN (dB (bx (c7 (bG pZ) pQ pQ ["one"] (cI wP) (d_ (i:=0)) cC (bI X (bx wn (bx (qv 6) bC)))) (bx (c7 (bG pZ) pQ pQ ["one"] (cI wP) (d_ (i:=0)) cC (bI X (bx wn (bx (qv 7) bC)))) bC)))))))))))),?_⟩
 rintro _ t R et ⟨s,d,l,n,rfl,h,O,n1,Z,rb,W,q⟩;cases et;refine⟨n,rfl,n1,Z,rfl,s,d,l,n,rfl,h,Z,rb,λL yl rd=>?_⟩;have y:=aj (show n-1<L.length by lia);have U:=aj (show n<L.length by lia);have el:L.getLast?=some L[n]:=by rwa[km,show L.length-1=n by lia]
 obtain⟨l1,b1⟩:=W L rd (n-1) _ (Nat.sub_le _ _) y;obtain⟨l2,B⟩:=W L rd n _ (aG _) U;have go:=q L L[n-1] L[n];generalize L[n-1]=r at *;generalize L[n]=J at *;refine⟨_,Bj el,?_⟩;by_cases c:J=[]
 .subst c;exact go [] [] rd y U ⟨0,0,λz=>absurd rfl z,rfl,rfl⟩
 have v0:0<J.length:=List.length_pos_iff.mpr c;have few:=h.few;have hl:=h.len;refine dy (Zp (by rw[ak];lia)) ?_;have x:∀g∈lC r J,Rz 1251 1220 g:=λg j=>by
  obtain⟨p,hp,rfl⟩:=YV.mp j;have z1:=B _ (VX hp).1;have z2:=b1 _ (VX hp).2;rw[sub_eq_add_neg];exact z1.add (Rz.neg z2) (k:=1250) wf wf
 have gn:lC r J≠[]:=λz=>by
  have:=ZH List.length z;unfold lC at this;rw[ak,VZ,l1,l2,UV]at this;have:l.length=0:=this;lia
 have bq:∀g∈lC r J,Bq g:=λg j=>(x g j).bq wf wf;have V:∀g∈lC r J,Rz 1255 1224 (a8 s g):=λg j=>((ZG O).1.mul (x g j)).mono wf wf;refine⟨_,MM wp (show L[L.length-2]?=_ by rw[show L.length-2=n-1 by lia];exact y),r,J,rfl,by lia,λa Q=>(b1 a Q).mono wf wf,λa Q=>(B a Q).mono wf wf,?_⟩;refine⟨su D,_,rfl,lC r J,rfl,bq,(λz=>absurd z gn),λg j hx=>⟨s,g,rfl,O,(x g j).mono wf wf,su D,_,rfl,lC r J,rfl,bq,(λz=>absurd z gn),λm u e9=>⟨s,m,rfl,O,(x m u).mono wf wf,?_⟩⟩⟩;have Y:(J.map aa).length<=sizeLine:=by rw[ak];exact aL (show _<=1000 by lia) wf
 have C:∀g∈lC r J,∀v∈J,Bq v/\Bq (a8 s g)/\Bd ((v.den:Int)*(a8 s g).den):=λg j v o=>⟨(B v o).bq wf wf,(V g j).bq wf wf,(B v o).dd (V g j) wf⟩;refine⟨Y,comp_map aa (λv=>aa (v+a8 s g)) J (λv o N M S=>⟨v,a8 s g,rfl,(C g j v o).1,(C g j v o).2.1,(C g j v o).2.2,S⟩) ⟨Y,comp_map aa (λv=>aa (v+a8 s m)) J (λv o N M S=>⟨v,a8 s m,rfl,(C m u v o).1,(C m u v o).2.1,(C m u v o).2.2,S⟩) ?_⟩⟩;have:=go (J.map λv=>v+a8 s g) (J.map λv=>v+a8 s m) rd y U ⟨g,m,λ_=>⟨⟨j,hx⟩,u,e9⟩,rfl,rfl⟩;rw[show bp (J.map λv=>v+a8 s g)=.lst (J.map λv=>aa (v+a8 s g))by unfold bp;rw[WJ];rfl,show bp (J.map λv=>v+a8 s m)=.lst (J.map λv=>aa (v+a8 s m))by unfold bp;rw[WJ];rfl]at this;exact this
def CP(D:a'):ST:=λb q=>∃(s:Rat)(d:Φ)(l:zD)(n:Nat),b=[bu D s d l,.int (n:Nat)]/\yc d l/\1<=n/\n<=40/\hA s l n /\
 ∀(L:wv)(a:xz)(C:zS),RdL s l L->L[n-1]?=some a->gg s l a (rN l) C->q (.l1 (C.map dT))
def O6(F:Fun K pC pC vP f G)(T:Txt K mg D)(r:ag P w K mg base 2 iV gB qu)(o:hE P w K mg base (fh K D) 8 dJ dI (rJ D))(p:ag P w K mg base 4 lQ jm (uM D))(j:ag P w K mg base 5 vB rH (Ii D)):bW P w K mg base ab 9 f G lV (gp K (fh K D) 0 (CP D)):=by
 refine F.okG 0 RX Oh (λJ R y=>by obtain⟨_,_,_,_,e,_⟩:=y;exact e ▸ rfl) λN a b M H E u=>?_;refine⟨_,(bF (jy (bI r (bx we bC)))
  (bH (bN (bI j (bx (iv 0) (bx (bI p (bx (iv 0) bC)) (bx (bJ (Aq 0 o u.md (by rfl) (bx (bL qw we bA) bC)) (ux bA)) bC))))))),?_⟩
 rintro _ t R z ⟨s,d,l,n,rfl,h,m,i,g,q⟩;cases z;refine⟨n,rfl,m,i,s,d,l,rfl,h,rfl,s,d,l,n-1,?_,h,by exact aL (Nat.sub_le _ _) i,λL rd k A x=>g L rd k A (aR x (Nat.sub_le _ _)),λL I rd=>?_⟩
 .show[bu D s d l,L2.T.int ((n:Int)-1)]=[bu D s d l,L2.T.int ((n-1:Nat):Int)];rw[show((n-1:Nat):Int)=(n:Int)-1 by lia]
 have c:=aj (show n-1<L.length by lia);have B:L.getLast?=some L[n-1]:=by rw[km,show L.length-1=n-1 by lia];exact c
 exact⟨_,Bj B,s,d,l,rN l,L[n-1],rfl,h,zj l,g L rd (n-1) _ (by omega) c,λC v=>q L _ C rd c v⟩
def QF{t:xk}{l:zD}(a:oJ t l)(h:cf l C):kv t C:=by
 refine⟨by rw[h.len,a.len],λk d j i c=>?_⟩;have e:k<l.length:=by rw[a.len];exact(ao.mp c).1
 have b:=aj e;obtain⟨m,f,g⟩:=a.at_ k j _ c b;have:=h.ok k d _ i b;rw[g,ak,VZ,f,UV]at this;exact this
def ZS(k:0<=s)(g:s<1)(h:∀i,i<m->∃j,ck s m j/\x i<=s*dw j x):∀b,b<m->x b<=0:=by
 have l:∀i,∃j,i<m->ck s m j/\x i<=s*dw j x:=λi=>by
  by_cases c:i<m
  .obtain⟨j,a⟩:=h i c;exact⟨j,λ_=>a⟩
  .exact⟨[],λz=>absurd z c⟩
 obtain⟨f,e⟩:=Classical.axiomOfChoice l;exact sub_le k g (λi d=>(e i d).1) λi d=>(e i d).2
def LDk.sh{d:LD}(h:LDk m d):ck s m d.prs:=⟨h.lt,h.nn,by rw[Gh,xG,h.one];exact VQ⟩
def rG{d:LD}(h:LDk m d):oR s (λa=>x a+c) d=oR s x d+s*c:=by
 have e:=DR (λa=>x a+c) x d.prs;have f:dw d.prs (λa=>x a+c-x a)=c:=by
  have:∀j:zI,dw j (λa=>x a+c-x a)=dw j (λ_=>1)*c:=λj=>by
   induction j with
   |nil=>show(0:Rat)=0*c;grind
   |cons w j b=>rw[cZ,cZ,b];grind
  rw[this,xG,h.one,Rat.one_mul]
 unfold oR
 grind
def FT{d:LD}(h:LDk m d)(c:0<=s)(l:∀a,a<m->x a<=y a):oR s x d<=oR s y d:=by
 unfold oR;have:=T8 (j:=d.prs) (x:=x) (z:=y) λw b=>⟨h.nn w b,l _ (h.lt w b)⟩;have:=UH this c
 grind
def d8{d:LD} : oR s x d-oR s y d=s*dw d.prs λj=>x j-y j:=by
 unfold oR;rw[DR]
 grind
structure hF(s:Rat)(m:Nat)(t:xk)(x v:Nat->Rat):Prop where
 no:∀k,k<m->t.getD k []=[]->v k=0
 some:∀k,k<m->t.getD k []≠[]->∃d∈t.getD k [],v k=oR s x d
 le:∀k,k<m->∀d∈t.getD k [],oR s x d<=v k
structure Gn(m:Nat)(t:xk)(x v:Nat->Rat)(g h:Rat):Prop where
 lo:∀k,k<m->x k+g<=v k
 hi:∀k,k<m->v k<=x k+h
 nog:(∃k,k<m/\t.getD k []=[])->g<=0
 noh:(∃k,k<m/\t.getD k []=[])->0<=h
def Zo{t:xk}(hd:DSk m X t){d:LD}(h:d∈t.getD k []):LDk m d:=by
 by_cases c:k<t.length
 .rw[au,aj c]at h;exact hd.ok _ (aU c) d h
 .rw[au,aM (VS c)]at h;cases h
def T_{g:Rat}(a:s<1):a8 s g=s*g+s*a8 s g:=by
 unfold a8;have:(1-s)≠0:=λz=>by grind
 grind
def EK{g:Rat}(b:0<=s)(c:s<1)(h:g<=0):a8 s g<=0/\0<=a8 s (-g):=by
 have p:0<1-s:=by grind
 have q:0<=s/(1-s):=by
  rw[div_def];exact Q3 b (Th (Rat.inv_pos.mpr p))
 have a:=Q3 q (show 0 <= -g by grind);unfold a8;exact⟨by grind,a⟩
section
variable{s:Rat}{m X:Nat}{t:xk}{x v y:Nat->Rat}{g h:Rat}
def VO(o:Shr s)(hd:DSk m X t)(n:hF s m t x v)(l:hF s m t v v')(G:Gn m t x v g h):(∀k,k<m->v k+s*g<=v' k)/\∀k,k<m->v' k<=v k+s*h:=by
 have j:=o.lo;refine⟨λk f=>?_,λk f=>?_⟩<;>by_cases c:t.getD k []=[]
 .rw[n.no k f c,l.no k f c];have:=Q3 j (show 0 <= -g by have:=G.nog ⟨k,f,c⟩;grind)
  grind
 .obtain⟨d,i,e⟩:=n.some k f c;have ld:=Zo hd i;have a:=FT ld j G.lo;rw[rG ld]at a;have b:=l.le k f d i
  grind
 .rw[n.no k f c,l.no k f c];have:=Q3 j (G.noh ⟨k,f,c⟩)
  grind
 .obtain⟨d,i,e⟩:=l.some k f c;have ld:=Zo hd i;have a:=FT ld j G.hi;rw[rG ld]at a;have b:=n.le k f d i
  grind
def Vg(i:Shr s)(hd:DSk m X t)(n:hF s m t x v)(G:Gn m t x v g h)(o:∀k,k<m->(t.getD k []=[]/\y k=0)\/∃d∈t.getD k [],v k=oR s x d/\oR s y d<=y k):∀k,k<m->v k+a8 s g<=y k:=λk f=>by
 have j:=i.lo;have:=ZS (x:=λk=>v k+a8 s g-y k) j i.hi (λk f=>?_) k f
 .grind
 .rcases o k f with⟨c,e⟩|⟨d,p,e,l⟩
  .refine⟨[],⟨λ_ z=>(nomatch z),λ_ z=>(nomatch z),by show(0:Rat)<=1;decide⟩,?_⟩;show v k+a8 s g-y k<=s*0;rw[n.no k f c,e];have:=(EK j i.hi (G.nog ⟨k,f,c⟩)).1
   grind
  .have ld:=Zo hd p;refine⟨d.prs,ld.sh,?_⟩;rw[<- d8,rG ld];have a:=FT ld j G.lo;rw[rG ld]at a;have b:=T_ (g:=g) i.hi;show v k+a8 s g-y k<=_
   grind
def Ya(j:Shr s)(hd:DSk m X t)(n:hF s m t x v)(G:Gn m t x v g h)(p:∀k,k<m->(t.getD k []=[]/\y k=0)\/∃d∈t.getD k [],y k=oR s y d):∀k,k<m->y k<=v k+a8 s h:=λk i=>by
 have l:=j.lo;have:=ZS (x:=λk=>y k-(v k+a8 s h)) l j.hi (λk i=>?_) k i
 .grind
 .rcases p k i with⟨c,e⟩|⟨d,o,e⟩
  .refine⟨[],⟨λ_ z=>(nomatch z),λ_ z=>(nomatch z),by show(0:Rat)<=1;decide⟩,?_⟩;show y k-(v k+a8 s h)<=s*0;rw[n.no k i c,e];have q:=G.noh ⟨k,i,c⟩;have:=(EK (g:=-h) l j.hi (by grind)).2;rw[Rat.neg_neg]at this
   grind
  .have ld:=Zo hd o;refine⟨d.prs,ld.sh,?_⟩;rw[<- d8,rG ld];have a:=FT ld l G.hi;rw[rG ld]at a;have b:=n.le k i d o;have f:=T_ (g:=h) j.hi;show y k-(v k+a8 s h)<=_
   grind
def gV{d c:Rat}(f:Shr s)(hd:DSk m X t)(z:hF s m t x v)(y:hF s m t v v')(G:Gn m t x v g h)(o:Gn m t v v' d c)(mg:∃k,k<m/\d=v' k-v k)(A:∃k,k<m/\c=v' k-v k):(∀k,k<m->v k+a8 s g<=v' k+a8 s d)/\(∀k,k<m->v' k+a8 s c<=v k+a8 s h)/\a8 s c-a8 s d<=s*(a8 s h-a8 s g):=by
 obtain⟨a,b⟩:=VO f hd z y G;obtain⟨i,C,L⟩:=mg;obtain⟨j,B,K⟩:=A;have J:=a i C;have I:=b j B;have E:s*g<=d:=by grind
 have D:c<=s*h:=by grind
 have w:=f.lo;have n:=f.hi;have p:0<1-s:=by grind
 have q:0<=s/(1-s):=by
  rw[div_def];exact Q3 w (Th (Rat.inv_pos.mpr p))
 have e:=UH E q;have q2:=UH D q;have H:=T_ (g:=g) n;have F:=T_ (g:=h) n;have u:s/(1-s)*(s*g)=s*a8 s g:=by unfold a8;grind
 have r:s/(1-s)*(s*h)=s*a8 s h:=by unfold a8;grind
 rw[u]at e;rw[r]at q2;have e:s*a8 s g<=a8 s d:=e;have q2:a8 s c<=s*a8 s h:=q2;refine⟨λk l=>?_,λk l=>?_,by grind⟩
 .have:=o.lo k l
  grind
 .have:=o.hi k l
  grind
end
abbrev dv(A:xz):Prop:=∀y∈A,Rz 1000 800 y
def uF:ST:=λa q=>∃(m:Nat)(M A:xz),a=[bp M,bp A]/\M.length=m/\A.length=m/\m<=100/\dv M/\dv A/\(∀k,k<m->M.getD k 0<=A.getD k 0)/\q (.fz (.bl true))
def NP(F:Fun K lZ lZ qW f G)(T:Txt K mg D)(u:ag P w K mg base 1 zZ uY Ib):bW P w K mg base ab 2 f G jj (am K uF):=by
 refine F.okT N5 (λ_ _=>bH (bN (Ks (bY (Pw rfl) T.alN boot_any (bx (c7 (bG qW) vC vC ["_law_one","_law_high"] (zJ T.Jg (bx wn (bx we bC))) (fH (n:=2) (bT (d_ (i:=0)) (bT (d_ (i:=1)) dN))) cC (bI u (bx we (bx wn bC)))) bC))))) ?_;rintro _ R ⟨m,M,A,rfl,h,x,v,j,o,le,q⟩;show(xZ (M.map aa) (A.map aa)).length<=sizeLine/\iH _ _ _ _ (xZ (M.map aa) (A.map aa)) _;rw[zA];refine⟨by rw[ak,VZ];exact aL (show _<=1000 by lia) wf,comp_map (λp:Rat×Rat=>.tup [aa p.1,aa p.2]) (λ_=>.bl false) (M.zip A) (λp r N a y=>?_) ⟨(M.zip A).map λ_=>false,by rw[WJ];rfl,?_⟩⟩
 .obtain⟨k,t⟩:=aV r;obtain⟨c,d⟩:=List.getElem?_zip_eq_some.mp t;have s:k<m:=by rw[<- h];exact(ao.mp c).1
  have g:=(j _ (aC c)).bq wf wf;have e:=(o _ (aC d)).bq wf wf;have l:=le k s;rw[au,au,c,d]at l;have l:p.1<=p.2:=l;have B:=p.1.den_pos;have z:=p.2.den_pos;refine⟨rfl,_,_,_,_,rfl,by lia,by lia,⟨e.1,e.2,g.1,g.2⟩,?_⟩;rwa[rd,rd,Zp (Rat.not_lt.mpr l)]
 .rw[show true = !(((M.zip A).map λ_=>false).any λb=>b)by simp]at q;exact q
def ej(a b:Rat):Int×Int:=(a.num*b.den-b.num*a.den,a.den*b.den)
abbrev iL(p:Β):L2.T:=pT p.1 p.2
def ft(a b:Rat):divInt (ej a b).1 (ej a b).2=a-b:=by
 have h:a-b=divInt a.num a.den-divInt b.num b.den:=by rw[rd,rd]
 rw[h,Rat.divInt_sub_divInt _ _ (kZ a) (kZ b)]
 rfl
def nV{b:Rat}(d:Rz 1000 800 a)(c:Rz 1000 800 b):0<(ej a b).2/\(ej a b).1.natAbs<=10^1801/\(ej a b).2.natAbs<=10^1600:=by
 have f:=a.den_pos;have e:=b.den_pos;refine⟨XZ wp wp,?_,?_⟩
 .have x:=Int.natAbs_sub_le (a.num*b.den) (b.num*a.den);have y:(a.num*b.den).natAbs<=10^1800:=by rw[VW,X0,show 10^1800=10^1000*10^800 by rw[<- UY]];exact W1 d.1 c.2
  have z:(b.num*a.den).natAbs<=10^1800:=by rw[VW,X0,show 10^1800=10^1000*10^800 by rw[<- UY]];exact W1 c.1 d.2
  rw[show 10^1801=10^1800*10 from pow_succ ..];show(a.num*b.den-b.num*a.den).natAbs<=_;omega
 .show((a.den:Int)*b.den).natAbs<=_;rw[VW,X0,X0,show 10^1600=10^800*10^800 by rw[<- UY]];exact W1 d.2 c.2
def Rq:ST:=λc q=>∃a b:Rat,c=[aa a,aa b]/\Rz 1000 800 a/\Rz 1000 800 b/\q (.fz (iL (ej a b)))
def _n(F:Fun K Fw Fw Yr f G):bW P w K mg base ab 1 f G Bc (am K Rq):=by
 refine F.okT YE (λ_ _=>bH (bN (dB (bx (bL qw (bL cQ (bJ wn bA) (bJ we bA)) (bL cQ (bJ we bA) (bJ wn bA))) (bx (bL cQ (bJ wn bA) (bJ we bA)) bC))))) ?_;rintro _ R ⟨a,b,rfl,g,e,q⟩;have d:=g.bq wf wf;have c:=e.bq wf wf;exact⟨⟨d.1,c.2⟩,⟨c.1,d.2⟩,⟨d.2,c.2⟩,q⟩
def Wa:ST:=λa q=>∃(c:Rat)(F:Γ),a=[.lst (F.map iL)]/\F.length<=100/\(∀p∈F,0<p.2/\Bd p.1/\Bd p.2/\divInt p.1 p.2=c)/\q (.fz (.bl true))
def acG(F:Fun K Gd Gd JZ f G)(T:Txt K mg D)(s:ag P w K mg base 1 Kg Gq W3):bW P w K mg base ab 2 f G zP (am K Wa):=by
 refine F.okT _G (λ_ _=>bH (bN (bY (W8 rfl) T.adG boot_all (bx (c7 (bG JZ) Q9 Q9 ["_law_one"] (cI wn) (d_ (i:=0)) cC (bI s (bx wn (bx (bJ we bA) bC)))) bC)))) ?_;rintro _ R ⟨c,F,rfl,a,h,q⟩;refine⟨by rw[ak];exact aL a wf,comp_map iL (λ_=>.bl true) F (λp d N M t=>?_) ⟨F.map λ_=>true,by rw[WJ];rfl,?_⟩⟩
 .cases F with
  |nil=>cases d
  |cons e F =>
   obtain⟨r,o,n,m⟩:=h p d;obtain⟨l,k,j,g⟩:=h e (aO ..);refine⟨_,rfl,_,_,_,_,rfl,r,l,⟨o,n,k,j⟩,?_⟩;rwa[m,g,Zs rfl]
 .rw[show true=((F.map λ_=>true).all λb=>b)by simp]at q;exact q
def P_:ST:=λd q=>∃(s:Rat)(m:Nat)(lo a b c:xz),d=[aa s,.tup [bp lo,bp a],.tup [bp b,bp c]]/\Shr s/\0<m/\m<=100/\(lo.length=m/\a.length=m/\b.length=m/\c.length=m)/\(dv lo/\dv a/\dv b/\dv c)/\(∀k,k<m->lo.getD k 0<=b.getD k 0)/\(∀k,k<m->c.getD k 0<=a.getD k 0)/\c.getD 0 0-b.getD 0 0<=s*(a.getD 0 0-lo.getD 0 0)/\q (.fz (.bl true))
def abl(F:Fun K Bp Bp Kv f G)(T:Txt K mg D)(I:ag P w K mg base 2 lZ jj uF)(A:ag P w K mg base 1 Fw Bc Rq)(Bx:ag P w K mg base 1 zZ uY Ib):bW P w K mg base ab 3 f G vd (am K P_):=by
 refine F.okT abJ (λ_=>bF (cG (QW.qt (g8 (cX (cN (bI I (bx (bJ we bA) (bx (bJ wa bA) bC))))) (eX (cX (cN (bI I (bx (bJ wa bA) (bx (bJ we bA) bC))))))))
  (bH (bN mW))
  bQ)
  (bF (bO 3 (bI A (bx (bJ (bJ we bA) bA) (bx (bJ (bJ we bA) bA) bC))))
  (bH (bN (Ks (bI Bx (bx (dB (bx (bL cQ (bJ wP bA) (bJ wn bA)) (bx (bL cQ (bJ wP bA) (bJ wn bA)) bC))) (bx (bI A (bx (bJ (bJ wa bA) bA) (bx (bJ (bJ wa bA) bA) bC))) bC)))))))) ?_
 rintro _ R ⟨s,m,lo,E,H,J,rfl,X,m0,C,⟨W,V,U,S⟩,⟨O,N,M,L⟩,Z,Y,n,q⟩;obtain⟨a,u⟩ : ∃a,lo[0]?=some a:=⟨_,aj wp⟩;obtain⟨b,t⟩ : ∃a,E[0]?=some a:=⟨_,aj wp⟩;obtain⟨c,p⟩ : ∃a,H[0]?=some a:=⟨_,aj wp⟩;obtain⟨d,o⟩ : ∃a,J[0]?=some a:=⟨_,aj wp⟩;rw[au,au,au,au,u,t,p,o]at n;have n:d-c<=s*(b-a):=n;have z:=O _ (aC u);have y:=N _ (aC t);have x:=M _ (aC p);have v:=L _ (aC o);have g:∀{l:xz}{r:Rat},l[0]?=some r->ca (l.map aa) 0=some (aa r):=λe=>ju (k:=0) e;have ld:=nV y z;have j:=nV v x;have sz:=Ez X;have B:=sz.bq wf wf;have Q:(0:Int)<s.den:=by have:=s.den_pos;lia
 have i:((ej b a).1*s.num).natAbs<=10^1803:=by
  rw[VW,show 10^1803=10^1801*10^2 by rw[<- UY]];exact W1 ld.2.1 sz.1
 have h:((ej b a).2*s.den).natAbs<=10^1602:=by
  rw[VW,X0,show 10^1602=10^1600*10^2 by rw[<- UY]];exact W1 ld.2.2 sz.2
 refine⟨m,lo,H,rfl,W,U,C,O,M,Z,m,J,E,rfl,S,V,C,L,N,Y,_,g t,_,g u,b,a,rfl,y,z,?_⟩;refine⟨⟨uQ ld.2.1 wf,B.1⟩,⟨uQ ld.2.2 wf,B.2⟩,_,g o,_,g p,d,c,rfl,v,x,_,_,_,_,rfl,XZ ld.1 Q,j.1,⟨uQ i wf,uQ h wf,uQ j.2.1 wf,uQ j.2.2 wf⟩,?_⟩;rw[<- ki,ft,ft,rd,Zp (Rat.not_lt.mpr (by rwa[XT]))];exact q
def PL(D:a'):ST:=λe q=>∃(s:Rat)(d:Φ)(l:zD)(m n N:Nat)(A J lo a:xz),e=[bu D s d l,.int (n:Nat),.tup [bp lo,bp a],bp A,bp J]/\yc d l/\l.length=m/\m<=100/\1<=n/\n<=40/\hA s l n/\fx s l N/\(A.length=m/\J.length=m/\lo.length=m/\a.length=m)/\(dv A/\dv J/\dv lo/\dv a) /\
 (∀k,k<m->lo.getD k 0<=A.getD k 0)/\(∀k,k<m->A.getD k 0<=a.getD k 0)/\(∃c,∀k,k<m->a.getD k 0-lo.getD k 0=c)/\(∃c,∀k,k<m->a.getD k 0-J.getD k 0=c) /\
 (∀(L:wv)(b:xz)(C:zS)(M:xz),RdL s l L->L[n-1]?=some b->gg s l b (rN l) C->k_ s l C M->dv M/\(∀k,k<m->lo.getD k 0<=M.getD k 0)/\∀k,k<m->M.getD k 0<=A.getD k 0)/\q (.fz (.bl true))
theorem aaE(F:Fun K BP BP zf f G)(T:Txt K mg D)(fB:ag P w K mg base 3 lM jf uP)(V:ag P w K mg base 2 lZ jj uF)(JT:ag P w K mg base 2 Gd zP Wa)(yD:ag P w K mg base 1 Fw Bc Rq)(mQ:ag P w K mg base 9 mZ kI (vW D))(wU:hE P w K mg base (fh K D) 9 pC lV (CP D)):bW P w K mg base ab 10 f G vg (gp K (fh K D) 0 (PL D)):=by
 refine F.okG 0 RX aaM (λts R hP=>by obtain⟨_,_,_,_,_,_,_,_,_,_,e,_⟩:=hP;exact e ▸ rfl) λae j Z s0 H E hr=>?_;refine⟨_,(bF (Q8 wa (fH (n:=2) (bT (cB (n:=99) 7) (bT (cB (n:=99) 8) dN))))
  (bF (bO 5 (bY eF T.gk VY (bx wP bC)))
  (bF (cG (QW.qt (g8 (cX (cN (bI fB (bx (qv 7) (bx (qv 5) bC))))) (eX (cX (cN (bI fB (bx (qv 8) (bx (qv 5) bC))))))))
  (bH (bN mW))
  bQ)
  (bF (cG (QW.qt (g8 (cX (cN (bI V (bx (qv 7) (bx wP bC))))) (eX (cX (cN (bI V (bx wP (bx (qv 8) bC))))))))
  (bH (bN mW))
  bQ)
  (bF (cG (cX (cN (bI JT (bx (c7 (bG zf) yE yE ["_law_high","_law_low"] (zJ T.Jg (bx (qv 8) (bx (qv 7) bC))) (fH (n:=2) (bT (d_ (i:=0)) (bT (d_ (i:=1)) dN))) cC (bI yD (bx wn (bx we bC)))) bC))))
  (bH (bN mW))
  bQ)
  (bF (cG (cX (cN (bI JT (bx (c7 (bG zf) yE yE ["_law_high","_law_one"] (zJ T.Jg (bx (qv 8) (bx wE bC))) (fH (n:=2) (bT (d_ (i:=0)) (bT (d_ (i:=1)) dN))) cC (bI yD (bx wn (bx we bC)))) bC))))
  (bH (bN mW))
  bQ)
  (bF (bO 6 (bI mQ (bx (iv 0) (bx (Aq 0 wU hr.md (by rfl) (bx we bC)) bC))))
  (bF (cG (cX (cN (bI fB (bx (qv 6) (bx (qv 5) bC)))))
  (bH (bN mW))
  bQ)
  (bH (bN (LR (bI V (bx (qv 7) (bx (qv 6) bC))) (M6 (bI V (bx (qv 6) (bx wP bC))))))))))))))),?_⟩
 rintro _ t R et ⟨s,d,l,m,n,N,A,J,lo,o,rfl,h,ol,x,n1,ir,rb,B,⟨U,l2,S,z⟩,⟨b1,b2,W,O⟩,h1,h2,⟨c,hc⟩,⟨c',du⟩,hw,q⟩;cases et;have lm:(A.map aa).length=m:=by rw[ak,U]
 have Y:∀a:xz,[bp a,L2.T.int (((A.map aa).length:Nat):Int)]=[bp a,.int (m:Nat)]:=λa=>by rw[lm]
 have al:∀(r u:xz)(c:Rat),r.length=m->u.length=m->dv r->dv u->(∀k,k<m->r.getD k 0-u.getD k 0=c)->∀p∈(r.zip u).map λp=>ej p.1 p.2,0<p.2/\Bd p.1/\Bd p.2/\divInt p.1 p.2=c:=λr u c la lb ha hb e p v=>by
  obtain⟨p,hz,rfl⟩:=YV.mp v;obtain⟨k,ek⟩:=aV hz;obtain⟨I,e2⟩:=List.getElem?_zip_eq_some.mp ek;have hk:k<m:=by rw[<- la];exact(ao.mp I).1
  have b:=nV (ha _ (aC I)) (hb _ (aC e2));have a:=e k hk;rw[au,au,I,e2]at a;exact⟨b.1,uQ b.2.1 wf,uQ b.2.2 wf,(ft _ _).trans a⟩
 have zl:∀r u:xz,r.length=m->((r.zip u).map λp=>ej p.1 p.2).length<=100:=λr u la=>by rw[ak,VZ];lia
 have M:∀r u:xz,r.length=m->((r.zip u).map λp:Rat×Rat=>L2.T.tup [aa p.1,aa p.2]).length<=sizeLine:=λr u la=>by rw[ak,VZ];exact aL (show _<=100 by lia) wf
 refine⟨rfl,lo,m,Y lo,S,by exact aL x wf,o,m,Y o,z,by exact aL x wf,m,lo,A,rfl,S,U,x,W,b1,h1,m,A,o,rfl,U,z,x,b1,O,h2,?_⟩;show(xZ (o.map aa) (lo.map aa)).length<=sizeLine/\iH _ _ _ _ (xZ (o.map aa) (lo.map aa)) _;rw[zA];refine⟨M o lo z,comp_map (λp:Rat×Rat=>.tup [aa p.1,aa p.2]) (λp=>iL (ej p.1 p.2)) (o.zip lo) (λp v N g hN=>⟨rfl,p.1,p.2,rfl,O _ (VX v).1,W _ (VX v).2,hN⟩) ⟨c,(o.zip lo).map λp=>ej p.1 p.2,by rw[WJ];rfl,zl o lo z,al o lo c z S O W hc,?_⟩⟩;show(xZ (o.map aa) (J.map aa)).length<=sizeLine/\iH _ _ _ _ (xZ (o.map aa) (J.map aa)) _;rw[zA];refine⟨M o J z,comp_map (λp:Rat×Rat=>.tup [aa p.1,aa p.2]) (λp=>iL (ej p.1 p.2)) (o.zip J) (λp v N g hN=>⟨rfl,p.1,p.2,rfl,O _ (VX v).1,b2 _ (VX v).2,hN⟩) ⟨c',(o.zip J).map λp=>ej p.1 p.2,by rw[WJ];rfl,zl o J z,al o J c' z l2 O b2 du,?_⟩⟩;refine⟨rfl,s,d,l,n,rfl,h,n1,ir,rb,λL us C rd I v=>?_⟩;have X:=uZ (zj l) v;refine⟨s,d,l,C,N,rfl,h,X,by exact aL (WG ol) x,B.wo C X,λy wo _=>?_⟩;have wz:=V2 B.sh X wo;obtain⟨z1,z2,z3⟩:=hw L us C _ rd I v wz;have ym:(range l.length).map (λi=>aa (y i))=((range l.length).map y).map aa:=by rw[WJ];rfl
 have mm:((range l.length).map y).length=m:=by rw[ak,WH,ol]
 dsimp only[frz];rw[ym];generalize(range l.length).map y=Q at *;exact⟨Q,m,Y Q,mm,by exact aL x wf,m,lo,Q,rfl,S,mm,x,W,z1,z2,m,Q,A,rfl,mm,U,x,z1,b1,z3,q⟩
section
variable{s:Rat}{m X:Nat}{t:xk}{l:zD}{A M:xz}
def MR(hd:DSk m X t)(e:oJ t l)(h:k<m):∃(c:List LD)(b:Φ),t.getD k []=c/\t[k]?=some c/\b.length=c.length/\l[k]?=some ((b.zip c).map λp=>S8 p.1 p.2):=by
 have d:=aj (show k<t.length by rwa[hd.len]);have f:=aj (show k<l.length by rwa[e.len,hd.len]);obtain⟨b,a,g⟩:=e.at_ k _ _ d f;exact⟨_,b,by rw[au,d];rfl,d,a,by rw[f,g]⟩
def ja(hd:DSk m X t)(C:oJ t l)(h:ge s l A M):hF s m t (λj=>A.getD j 0) (λj=>M.getD j 0):=by
 refine⟨λk f c=>?_,λk f c=>?_,λk f d b=>?_⟩<;>obtain⟨v,n,g,u,a,D⟩:=MR hd C f<;>obtain⟨y,x,w⟩:=h.top k _ D
 .rw[g]at c;subst c;exact y wr
 .rw[g]at c ⊢;obtain⟨o,b,e⟩:=x λz=>c (by
   have:=ZH List.length z;rw[ak,VZ,a,UV]at this;exact List.length_eq_zero_iff.mp this)
  obtain⟨p,B,rfl⟩:=YV.mp b;have q:=(VX B).2;exact⟨p.2,q,by rw[<- JR (t:=p.1) (hd.ok v (aC u) _ q)];exact e⟩
 .rw[g]at b;obtain⟨i,r⟩:=aV b;have E:=(ao.mp r).1;have:=w (S8 (n[i]' wp) d) (YV.mpr ⟨(n[i]' wp,d),aC (List.getElem?_zip_eq_some.mpr ⟨aj wp,r⟩),rfl⟩);rw[JR (hd.ok v (aC u) _ b)]at this;exact this
def _v(w:Shr s)(hd:DSk m X t)(r:cu m t)(q:oJ t l){e:Nat}(h:ge s l A M)(v:YsK e A):YsK (e+42) M:=by
 have n:=ja hd q h;have D:∀k,∃c:xC,k<m->M.getD k 0=match c.bind λd=>(t.getD k [])[d]? with|none=>0|some d=>oR s (λj=>A.getD j 0) d:=λk=>by
  by_cases g:k<m
  .by_cases c:t.getD k []=[]
   .exact⟨none,λ_=>n.no k g c⟩
   .obtain⟨d,x,e⟩:=n.some k g c;obtain⟨i,E⟩:=aV x;exact⟨some i,λ_=>by show _=match(t.getD k [])[i]? with|none=>0|some d=>oR s _ d;rw[E];exact e⟩
  .exact⟨none,λz=>absurd z g⟩
 obtain⟨f,y⟩:=Classical.axiomOfChoice D;have o:M.length=m:=by rw[h.len,q.len,hd.len]
 have B:M=Hx s m t ((range m).map f) A:=by
  refine TK (by rw[o];unfold Hx;rw[ak,WH]) λk p u=>?_;have g:k<m:=by exact aR p (WG o)
  have a:=y k g;have b:=aaz (s:=s) (t:=t) (C:=(range m).map f) (A:=A) g;rw[au,aj p]at a;rw[au,aj u]at b;have a:M[k]=_:=a;have b:(Hx s m t ((range m).map f) A)[k]=_:=b;rw[a,b];unfold yX;rw[show((range m).map f).getD k none=f k by rw[au,aq,Up g];rfl]
  all_goals (cases((f k).bind λd=>(t.getD k [])[d]?)<;>rfl)
 rw[B];exact VC w hd r _ v
def adW:YsK 0 (replicate m 0):=⟨⟨1,VU,aG _,λy a=>by rw[(XV.mp a).2];exact Qr 1⟩,λy a=>by rw[(XV.mp a).2];decide +kernel,λy a=>by rw[(XV.mp a).2];decide +kernel⟩
structure p4(m k:Nat)(t:xk)(A:xz):Prop where
 len:A.length=m
 k:YsK (42*k) A
 no:∀j,j<m->t.getD j []=[]->A.getD j 0=0
theorem Xm(f:Shr s)(hd:DSk m X t)(d:cu m t)(a:oJ t l){L:wv}(h:RdL s l L):∀(k:Nat)(A:xz),L[k]?=some A->p4 m k t A
 |0,A,e=>by
  rw[h.first,a.len,hd.len]at e;cases e;refine⟨aN,adW,λj b _=>?_⟩;rw[au,X1,ZY b]
  rfl
 |k+1,M,e=>by
  have g:=aj (show k<L.length by have:=(ao.mp e).1;exact UU (X2 _) this);have n:=h.next k _ _ g e;exact⟨by rw[n.len,a.len,hd.len],_v f hd d a n (Xm f hd d a h k _ g).k,λj b c=>(ja hd a n).no j b c⟩
def YsK.z{e:Nat}(h:YsK e A){y:Rat}(a:y∈A):Rz (e+32) e y:=by
 obtain⟨L,c,b,f⟩:=h.cm;have d:=aL (UX c (f y a)) b;refine⟨aL (Io (h.hi y a) (h.lo y a)) ?_,d⟩;rw[UY,JU];exact W1 d (aG _)
def LN(p:Shr s)(hd:DSk m X t)(B:m<=100)(f:oJ t l){e:Nat}(g:e<=900)(a:A.length=m)(h:YsK e A):kA s l A:=by
 obtain⟨L,j,i,u⟩:=h.cm;have y:l.length=m:=by rw[f.len,hd.len]
 have d:b_ 1 A<=10^e:=aL (UX j (jU A (U1 _) u)) i;refine⟨by lia,λr c=>uQ (h.z c).1 wp,uQ (n:=e) (by rwa[X0]) (aL g wf),λw v o q=>DU (t:=e+32+e) (b:=e) p (ZK hd f w v o q) wf (aG _) wf (by unfold tops;rw[ak];exact a) (λx k=>?_) d wp (aL g wf)⟩;obtain⟨r,c,rfl⟩:=YV.mp k;rw[VW,X0,UY _ _ e];exact W1 (h.z c).1 (aL (Q1 _ _) d)
def WM(hd:DSk m X t)(a:kv t C)(j:k<m):(t.getD k []=[]/\∀y,yX s y t C k=0)\/∃d∈t.getD k [],∀y,yX s y t C k=oR s y d:=by
 have i:k<t.length:=by rwa[hd.len]
 have h:=aj i;have g:=aj (show k<C.length by rwa[a.len]);have c:=a.ok k _ _ g h;have f:t.getD k []=t[k]:=by rw[au,h];rfl
 have b:C.getD k none=C[k]'(by rwa[a.len]):=by rw[au,g];rfl
 cases e:C[k]'(by rwa[a.len])with
 |none =>
  rw[e]at c b;refine .inl ⟨by rw[f];exact List.length_eq_zero_iff.mp (of_decide_eq_true c),λy=>?_⟩;unfold yX;rw[b]
  rfl
 |some d =>
  rw[e]at c b;have ld:d<t[k].length:=of_decide_eq_true c;refine .inr ⟨t[k][d],by rw[f];exact aU ld,λy=>?_⟩;unfold yX;rw[b,f];show(match t[k][d]? with|none=>0|some d=>oR s y d)=_;rw[aj ld]
def Ee(hd:DSk m X t)(a:oJ t l)(c:cf l C)(h:k_ s l C M)(d:k<m):M.getD k 0=yX s (λj=>M.getD j 0) t C k:=by
 have b:k<l.length:=by rwa[a.len,hd.len]
 rw[h.2 k b,Rg hd a (by rwa[c.len])]
def g5(hd:DSk m X t)(g:oJ t l)(h:gg s l A (rN l) C)(n:ge s l A M)(K:k<m):M.getD k 0=yX s (λj=>A.getD j 0) t C k:=by
 have w:=uZ (zj l) h;have E:k<l.length:=by rwa[g.len,hd.len]
 have d:=aj E;obtain⟨u,q,p⟩:=n.top k _ d;rw[<- Rg hd g (by rwa[w.len])];have fk:(rN l)[k]?=some (if 0<l[k].length then some 0 else none):=by unfold rN;rw[aq,d];rfl
 by_cases c:0<l[k].length
 .rw[ZY c]at fk;obtain⟨b,H,v⟩:=h.some k 0 _ fk d;obtain⟨f,D⟩ : b<l[k].length/\∀r∈l[k].map (gZ s (tops (b_ 1 A) A) (b_ 1 A)),r<=(l[k].map (gZ s (tops (b_ 1 A) A) (b_ 1 A))).getD b 0:=by
   rcases v with⟨a,rfl⟩|⟨_,i,J,_⟩
   .exact⟨c,a⟩
   .rw[ak]at i;exact⟨i,J⟩
  have G:(l[k].map (gZ s (tops (b_ 1 A) A) (b_ 1 A))).getD b 0=gZ s (tops (b_ 1 A) A) (b_ 1 A) l[k][b]:=by rw[au,aq,aj f];rfl
  rw[Cr H];show _=o8 s _ ((l.getD k [])[b]?);rw[au (l:=l),d];show _=o8 s _ (l[k][b]?);rw[aj f];show _=JL s _ l[k][b];obtain⟨o,F,e⟩:=q λz=>by rw[z]at c;exact absurd c (Wp _)
  have x:=p l[k][b] (aU f);have y:=D _ (YV.mpr ⟨o,F,rfl⟩);rw[G,qX,qX]at y;have B0:=eE A VU;have B:(0:Rat)<((b_ 1 A:Nat):Rat):=Rat.intCast_lt_intCast.mpr (show(0:Int)<(b_ 1 A:Nat)by lia);have y:=Rat.le_of_mul_le_mul_right y B;rw[<- e]at y;exact Rat.le_antisymm y x
 .rw[ZZ c]at fk;have I:l[k]=[]:=List.length_eq_zero_iff.mp wp;rw[u I,Cr (h.none k fk)];show(0:Rat)=0+s*0
  grind
def abk{a:xz}(i:a.length=m)(c:J.length=m):(∀k,k<m->J.getD k 0-a.getD k 0∈lC a J)/\∀g∈lC a J,∃k,k<m/\g=J.getD k 0-a.getD k 0:=by
 refine⟨λk j=>?_,λg e=>?_⟩
 .rw[au,au,aj (show k<J.length by lia),aj (show k<a.length by lia)];exact YV.mpr ⟨(J[k],a[k]),aC (List.getElem?_zip_eq_some.mpr ⟨aj wp,aj wp⟩),rfl⟩
 .obtain⟨p,d,rfl⟩:=YV.mp e;obtain⟨k,f⟩:=aV d;obtain⟨b,h⟩:=List.getElem?_zip_eq_some.mp f;exact⟨k,by have:=(ao.mp b).1;exact aR this (WG c),by rw[au,au,b,h];rfl⟩
structure BdK(s:Rat)(m:Nat)(t:xk)(us J lo hi:xz)(g h:Rat):Prop where
 lo:lo=J.map λv=>v+a8 s g
 hi:hi=J.map λv=>v+a8 s h
 gn:0<m->Gn m t (λj=>us.getD j 0) (λj=>J.getD j 0) g h/\(∃k,k<m/\g=J.getD k 0-us.getD k 0)/\(∃k,k<m/\h=J.getD k 0-us.getD k 0)
 sz:0<m->∀v∈J,Rz 1000 800 (v+a8 s g)/\Rz 1000 800 (v+a8 s h)
def oe(E:Shr s){f lo w:xz}(L:1<=n)(K:n<=5)(i:p4 m (n-1) t f)(e:p4 m n t J)(h:h5 s f J lo w):∃g h,BdK s m t f J lo w g h:=by
 obtain⟨g,h,G,I,H⟩:=h;refine⟨g,h,I,H,λD=>?_,λD v l=>?_⟩<;>obtain⟨⟨mg,r⟩,o,q⟩:=G (λz=>by have:=e.len;rw[z]at this;exact absurd this.symm (by simp;lia))<;>obtain⟨j,x⟩:=abk i.len e.len
 .refine⟨⟨λk d=>?_,λk d=>?_,λ⟨k,d,c⟩=>?_,λ⟨k,d,c⟩=>?_⟩,x g mg,x h o⟩
  .have:=r _ (j k d);grind
  .have:=q _ (j k d);grind
  .have:=r _ (j k d);rw[i.no k d c,e.no k d c]at this
   grind
  .have:=q _ (j k d);rw[i.no k d c,e.no k d c]at this
   grind
 .have y:∀g∈lC f J,Rz 1000 800 (v+a8 s g):=λg F=>by
   obtain⟨p,u,rfl⟩:=YV.mp F;have B:Rz 242 210 p.1:=(e.k.z (VX u).1).mono wp wp;have A:Rz 242 210 p.2:=(i.k.z (VX u).2).mono wp wp;have C:Rz 242 210 v:=(e.k.z l).mono wp wp;have a:Rz 453 420 (p.1-p.2):=by
    rw[sub_eq_add_neg];exact B.add (Rz.neg A) (k:=452) wf wf
   have b:Rz 457 424 (a8 s (p.1-p.2)):=((ZG E).1.mul a).mono wf wf;exact(C.add b (k:=667) wf wf).mono wf wf
  exact⟨y g mg,y h o⟩
end
theorem VM{l:zD}{a b:xz}(d:ge s l A a)(n:ge s l A b):a=b:=by
 refine TK (by rw[d.len,n.len]) λk t r=>?_;have p:=aj (show k<l.length by rwa[<- d.len]);obtain⟨m,j,i⟩:=d.top k _ p;obtain⟨h,g,f⟩:=n.top k _ p;rw[au,aj t]at m j i;rw[au,aj r]at h g f;generalize l[k]'(by rwa[<- d.len])=w at *;by_cases c:w=[]
 .exact(m c).trans (h c).symm
 .obtain⟨o,u,e⟩:=j c;obtain⟨q,z,v⟩:=g c;have x:=f o u;have y:=i q z;rw[<- e]at x;rw[<- v]at y;exact Rat.le_antisymm x y
theorem J5{s:Rat}{l:zD}{L e:wv}(g:RdL s l L)(f:RdL s l e):∀(k:Nat)(a b:xz),L[k]?=some a->e[k]?=some b->a=b
 |0,a,b,d,c=>by
  rw[g.first]at d;rw[f.first]at c;cases d;cases c
  rfl
 |k+1,a,b,d,c=>by
  have j:=aj (show k<L.length by have:=(ao.mp d).1;exact UU (X2 _) this);have i:=aj (show k<e.length by have:=(ao.mp c).1;exact UU (X2 _) this);have h:=g.next k _ _ j d;have m:=f.next k _ _ i c;rw[J5 g f k _ _ j i]at h;exact VM h m
def a_{t:Rat}(a:k<J.length):(J.map λv=>v+t).getD k 0=J.getD k 0+t:=by
 rw[au,au,aq,aj a];rfl
structure Mid(s:Rat)(m R N:Nat)(t:xk)(Y:Φ)(l:zD)(F:xL)(p:eQ):Prop where
 hs:Shr s
 hd:DSk m 3 t
 m6:m<=6
 h:yc Y l
 ho:oJ t l
 n1:1<=R
 n5:R<=5
 B:fx s l N
 ms:Zb s l ((2*l.length*N)^l.length) (rN l) F
 el:F.getLast?=some p
structure Win(s:Rat)(m n:Nat)(l:zD)(A J lo hi:xz):Prop where
 l1:lo.length=m
 l2:hi.length=m
 b1:dv lo
 b2:dv hi
 h1:∀k,k<m->lo.getD k 0<=A.getD k 0
 h2:∀k,k<m->A.getD k 0<=hi.getD k 0
 c1:∃c,∀k,k<m->hi.getD k 0-lo.getD k 0=c
 c2:∃c,∀k,k<m->hi.getD k 0-J.getD k 0=c
 pl:∀(L:wv)(us:xz)(pl:zS)(M:xz),RdL s l L->L[n-1]?=some us->gg s l us (rN l) pl->k_ s l pl M->dv M/\(∀k,k<m->lo.getD k 0<=M.getD k 0)/\∀k,k<m->M.getD k 0<=A.getD k 0
section
variable{s:Rat}{m R N:Nat}{t:xk}{Y:Φ}{l:zD}{F:xL}{p:eQ}
def Mid.hd4(M:Mid s m R N t Y l F p):DSk m 4 t:=⟨M.hd.len,λa h=>Nat.le_succ_of_le (M.hd.few a h),M.hd.ok⟩
def Mid.wz(a:Mid s m R N t Y l F p)(d:cf l C)(b:k_ s l C M):dv M:=λy c=>((ab5 a.hs a.hd4 (.inl a.m6) a.ho d b).z c).mono wf wf
def Mid.last(M:Mid s m R N t Y l F p):cf l p.1/\k_ s l p.1 p.2/\ma s m t p.2:=by
 obtain⟨b,a,_⟩:=M.ms.told.ok p (List.mem_of_getLast? M.el);exact⟨b,a,Op M.hd M.ho M.ms M.el⟩
def Mid.win(a:Mid s m R N t Y l F p)(rd:RdL s l L)(n1:1<=n)(n5:n<=5){i lo U:xz}(z:L[n-1]?=some i)(e2:L[n]?=some J)(hb:h5 s i J lo U):Win s m n l p.2 J lo U:=by
 have hs:=a.hs;have hd:=a.hd;have ho:=a.ho;have X:=Xm hs hd (.inl a.m6) ho rd (n-1) i z;have Q:=Xm hs hd (.inl a.m6) ho rd n J e2;have x:=ja hd ho (rd.next (n-1) i J z (by rwa[show n-1+1=n by exact kn n1]));obtain⟨g,h,K⟩:=oe hs n1 n5 X Q hb;obtain⟨e3,e4,O,W⟩:=K;subst e3;subst e4;obtain⟨S,k2,D⟩:=a.last;have r:=Q.len;have ol:l.length=m:=by rw[ho.len,hd.len]
 have H:∀k,k<m->(J.map λv=>v+a8 s g).getD k 0=J.getD k 0+a8 s g:=λk b=>a_ wp;have I:∀k,k<m->(J.map λv=>v+a8 s h).getD k 0=J.getD k 0+a8 s h:=λk b=>a_ wp;have gN:∀{y:Nat->Rat},∀k,k<m->(∀d∈t.getD k [],oR s y d<=y k)->(t.getD k []=[]->y k=0)->(t.getD k []=[]/\y k=0)\/∃d∈t.getD k [],J.getD k 0=oR s (λj=>i.getD j 0) d/\oR s y d<=y k:=λ{y}k b h1 h0=>by
  by_cases c:t.getD k []=[]
  .exact .inl ⟨c,h0 c⟩
  .obtain⟨d,f,e⟩:=x.some k b c;exact .inr ⟨d,f,e,h1 d f⟩
 refine⟨by rw[ak,r],by rw[ak,r],λy G=>?_,λy G=>?_,λk b=>?_,λk b=>?_,⟨a8 s h-a8 s g,λk b=>by rw[H k b,I k b];grind⟩,⟨a8 s h,λk b=>by rw[I k b];grind⟩,λP A C M k6 e' T E=>?_⟩
 .obtain⟨v,q,rfl⟩:=YV.mp G;exact(W (by rw[<- r];exact List.length_pos_of_mem q) v q).1
 .obtain⟨v,q,rfl⟩:=YV.mp G;exact(W (by rw[<- r];exact List.length_pos_of_mem q) v q).2
 .rw[H k b];refine Vg (y:=λj=>p.2.getD j 0) hs hd x (O wp).1 (λk b=>gN (y:=λj=>p.2.getD j 0) k b (λd f=>?_) λc=>D.no k b c) k b;have Z:k<t.length:=by rwa[hd.len]
  have V:=aj Z;rw[au,V]at f;exact D.le k _ V d f
 .rw[I k b];refine Ya (y:=λj=>p.2.getD j 0) hs hd x (O wp).1 (λk b=>?_) k b;have w:=Ee hd ho S k2 b;rcases WM (s:=s) hd (QF ho S) b with⟨c,e⟩|⟨d,f,e⟩
  .exact .inl ⟨c,by rw[w,e]⟩
  .exact .inr ⟨d,f,by rw[w,e]⟩
 .have u:=uZ (zj l) T;obtain rfl:=J5 k6 rd (n-1) _ _ e' z;refine⟨a.wz u E,λk b=>?_,acU hs.lo hs.hi (λds fg o f=>a.B.sh ds fg o f) hd ho (QF ho u) E D⟩;rw[H k b];refine Vg (y:=λj=>M.getD j 0) hs hd x (O wp).1 (λk b=>?_) k b;have w:=Ee hd ho u E b;have gr:=g5 hd ho T (rd.next (n-1) A J z (by rwa[show n-1+1=n by exact kn n1])) b;rcases WM (s:=s) hd (QF ho u) b with⟨c,e⟩|⟨d,f,e⟩
  .exact .inl ⟨c,by rw[w,e]⟩
  .refine .inr ⟨d,f,by rw[gr,e],?_⟩;rw[e]at w;rw[<- w];exact VQ
def Mid.near(M:Mid s m R N t Y l F p)(rd:RdL s l L)(n1:1<=n)(n5:n+1<=5)(u:0<m){d j lo o q r:xz}(y:L[n-1]?=some d)(x:L[n]?=some J)(w:L[n+1]?=some j)(C:h5 s d J lo o)(O:h5 s J j q r):(∀k,k<m->lo.getD k 0<=q.getD k 0)/\(∀k,k<m->r.getD k 0<=o.getD k 0)/\r.getD 0 0-q.getD 0 0<=s*(o.getD 0 0-lo.getD 0 0):=by
 have hs:=M.hs;have hd:=M.hd;have ho:=M.ho;have z:=Xm hs hd (.inl M.m6) ho rd (n-1) d y;have e:=Xm hs hd (.inl M.m6) ho rd n J x;have v:=Xm hs hd (.inl M.m6) ho rd (n+1) j w;have A:=ja hd ho (rd.next (n-1) d J y (by rwa[show n-1+1=n by exact kn n1]));have f:=ja hd ho (rd.next n J j x w);obtain⟨g,h,K⟩:=oe hs n1 (aL (Xs _) n5) z e C;obtain⟨X,W,S⟩:=oe (n:=n+1) hs (Q4 _ _) n5 e v O;obtain⟨I,H,Q,_⟩:=K;obtain⟨E,D,P,_⟩:=S;subst I H E D;obtain⟨G,_,_⟩:=Q u;obtain⟨T,mg,B⟩:=P u;obtain⟨a,b,c⟩:=gV hs hd A f G T mg B;have V:=e.len;have U:=v.len;refine⟨λk i=>?_,λk i=>?_,?_⟩
 .rw[a_ wp,a_ wp];exact a k i
 .rw[a_ wp,a_ wp];exact b k i
 .rw[a_ wp,a_ wp,a_ wp,a_ wp]
  grind
end
def hZ{X:Cx}{a b:RS}{T:TS}{D:Ends}(h:ia (f_ X (oO a b)) T D σ H):ia (f_ X a) (ia (f_ X b) T) D σ H:=Co h
theorem EX{Q:Type}{R:Q->L2.T->Prop} : ∀{l:List Q}{b:List L2.T},i' R l b->∀{k:Nat}{a:Q},l[k]?=some a->∃t,b[k]?=some t/\R a t
 |_,_,.nil,_,_,e=>by cases e
 |_,_,.cons r h,0,_,e=>by cases e;exact⟨_,rfl,r⟩
 |_,_,.cons r h,k+1,_,e=>EX h (k:=k) (by simpa using e)
def Eg{a:List L2.T}{t:L2.T}(e:a[k]?=some t):ca a (k:Nat)=some t:=by
 show dj a k=_;rw[qz];exact e
def mE(D:a')(d:xm)(m:Nat)(s:Rat)(t:xk)(Y:Φ)(l:zD)(b:L2.T)(R:Nat)(p:eQ)(e c a:OT):xy:=[.fz (k3 d),.fz (.int (m:Nat)),.fz (aa s),.fz (lz t),.fz (bu D s Y l),.fz b,.fz (.int (R:Nat)),.fz (bp p.2),e,c,a]
def OQ(F:Fun K SN SN Va f G)(T:Txt K mg D)(vL:ag P w K mg base 1 Er Bu Rn)(Xy:ag P w K mg base 2 J7 GK ee)(Ss:ag P w K mg base 3 Fx yH Wu)(RM:ag P w K mg base 5 Gr zy U5)(Yu:ag P w K mg base 9 J2 GQ (EW D))(d9:ag P w K mg base 1 j6 jq oZ)(Hs:ag P w K mg base 11 wu sS (Ni D))(nP:dL P w K mg base 8 dJ dI (BZ K D))(Ae:hE P w K mg base (fh K D) 9 qY oK (Fe D))(fB:ag P w K mg base 3 lM jf uP)(KJ:hE P w K mg base (fh K D) 10 BP vg (PL D))(Mf:ag P w K mg base 3 Bp vd P_):bW P w K mg base ab 12 f G Qs (Uj K D.T_best_rounds):=by
 refine F.ok Xu (λJ H Q E h=>?_) (λae q outer s0 H J Q E hr h=>?_)
 .obtain⟨_,_,rfl,_⟩:=h
  rfl
 obtain⟨a,d,rfl,hs,nl,_,hT,hQ⟩:=h;refine⟨_,(lJ (bO 1 (bI Xy (bx (bI vL (bx wn (bx bA bC))) bC)))
  (lJ (bO 2 (bI Ss (bx (bI vL (bx wn (bx bA bC))) (bx mW bC))))
  (lJ (bO 3 (bI RM (bx wn (bx bA (bx we (bx mW bC))))))
  (lJ (bO 4 (bI Yu (bx (bI vL (bx wn (bx bA bC))) (bx wa (bx wP bC)))))
  (lJ (bO 5 (bI d9 (bx (bI vL (bx wn (bx bA bC))) (bx bA bC))))
  (lJ (bO 6 (bL dg bA (bL cM (bJ (qv 5) bA) (bJ (eG (bx bA (bx bA (bx bA (bx bA bC))))) (bL cM (bJ (qv 5) bA) bA)))))
  (lJ (bO 7 (bJ (bI Hs (bx wE bC)) bA))
  (lJ (Yw (i:=8) Xu.nd rfl (Or.inl rfl) (rK nP hr.md (by rfl) (f9 (pv 4) (f9 (pv 6) zG))))
  (bF (qP (bG Va) pj ["_law_script","_law_size_here","_law_share_here","_law_rooms","_law_hall_here","_law_xs","_law_many","_law_best","_law_some","_law_told","?_law_k"] ["_law_k"] (B_ T.gJ (bx bA (bx (bL dg (qv 6) bA) bC))) (d_ (i:=0)) cC (Aq 5 Ae hr.md (by rfl) (bx wn bC)) (mD (i:=9) Xu.nd rfl (Or.inl rfl)))
  (bF (cG (QW.qt (g8 (cX (cN (bI fB (bx (qv 7) (bx we bC))))) (eX (cj (qG hr.units) (bY eF T.gk VY (bx (qv 8) bC)) (bL dg (qv 6) bA)))))
  (bH (bN mW))
  bQ)
  (bF (eV (B_ T.gJ (bx bA (bx (bL dg (qv 6) bA) bC))) (cB (n:=99) 10)
  (bF (cG (QW.qt (g8 (cX (cN (bI fB (bx (bJ (qv 8) (qv 10)) (bx we bC))))) (eX (cX (cN (Aq 4 KJ hr.md (by rfl) (bx (qv 10) (bx (bJ (qv 9) (bL qw (qv 10) bA)) (bx (qv 7) (bx (bJ (qv 8) (qv 10)) bC))))))))))
  (bH (bN mW))
  bQ)
  (bH (cG (QW.qt (Tw (cj IK (qv 10) bA) (Tw (cj IK we bA) (RB (cX (cN (bI Mf (bx wa (bx (bJ (qv 9) (bL qw (qv 10) bA)) (bx (bJ (qv 9) (bL qw (qv 10) bA)) bC))))))))))
  (bH (bN mW))
  bQ))))
  (bH (bN mW))))))))))))),?_⟩
 refine hZ (hZ (hZ (hZ (hZ (hZ ?_)))));refine⟨λ_=>[],_,{ nx:=λo=>∃(s:Rat)(m R N:Nat)(t:xk)(Y:Φ)(l:zD)(F:xL)(p:eQ)(xs:L2.T),o=mE D d m s t Y l xs R p .und .und .und/\Mid s m R N t Y l F p,rt:=λ_=>False },SR.start (.cons (.scr hs (Hr d)) .nil) pj,?_,⟨?_,λ_ _ _ _ _ z=>z.elim,λ_ _ _ _ z=>z.elim,λ_ _ _ _ z=>z.elim,λ_ _ _ _ _ _ z=>z.elim⟩⟩
 .refine⟨d,0,rfl,by exact aL nl wf,_,rfl,λm U=>⟨d,2,rfl,by exact aL nl wf,_,rfl,λs hs=>⟨d,5,m,rfl,by exact aL nl wf,by exact aL U wf,λt hd=>?_⟩⟩⟩;dsimp only;rw[_c];refine⟨d,1,rfl,by exact aL nl wf,_,s,m,3,t,rfl,hs,hd,by exact aL U wf,by decide,λY l hn hok ho=>?_⟩;refine⟨d,3,rfl,by exact aL nl wf,_,2,rfl,by decide,?_⟩;generalize d.getD 3 0=c;obtain⟨j,oS,ed⟩:=Yp [2,3,3,5] L2.T.int (i:=yT c 1%4) (by have:=nU c 1;exact Z3 _ wf) (by show yT c 1%4<4;exact YY _ wf);have d0:0<j/\j<=5:=by simp at oS;lia
  refine⟨_,fG (k:=0),_,fG (k:=1),by decide,_,ed,d0.1,?_⟩;obtain⟨R,em,n1,n5⟩ : ∃R:Nat,1+yT c 0%j=(R:Nat)/\1<=R/\R<=5:=by
   have:=Z3 (yT c 0) (show j≠0 by lia);have:=YY (yT c 0) d0.1;exact⟨(1+yT c 0%j).toNat,by lia,by lia,by lia⟩
  dsimp only[frz,CI];rw[em];have hd4:DSk m 4 t:=⟨hd.len,λds h=>Nat.le_succ_of_le (hd.few ds h),hd.ok⟩;obtain⟨N,B⟩:=_p hs hd4 (.inl U) ho;exact⟨s,Y,l,N,rfl,hok,B,λF p hm el=>⟨s,m,R,N,t,Y,l,F,p,_,rfl,⟨hs,hd,U,hok,ho,n1,n5,B,hm,el⟩⟩⟩
 .rintro own H1 σ _ ⟨s,m,R,N,t,Y,l,F,p,xs,rfl,M⟩ S1 h1;have hT1:H1 D.T_best_rounds=some (.tbl #[]):=(cW (S1 _ _ (by rwa[Ca]))).2;obtain⟨u4,e4,r4⟩:=h1.get (i:=4) (t:=bu D s Y l) rfl;obtain⟨u6,e6,r6⟩:=h1.get (i:=6) (t:=.int (R:Nat)) rfl;cases r6;have toW:∀b u,(∀g,u≠HO.tbl g)->H1 b=some u->wo [D.T_best_rounds] H1 b=some u:=λb u n e=>(yU λz=>by
   rw[YR.mp z,hT1]at e;cases e;exact n _ rfl).trans e
  have r4:=Rep.nt (λb u n e=>toW b u n (cW e).2) r4;have ol:l.length=m:=by rw[M.ho.len,M.hd.len]
  have sm:cu m t:=.inl M.m6;have mS:=@Xm s m 3 t l M.hs M.hd sm M.ho;have rb:∀n,n<=6->hA s l n:=λn hn L rd k A O e=>by
   have r:=mS rd k A e;exact LN M.hs M.hd (by have:=M.m6;exact aL this wf) M.ho wp r.len r.k
  have rv:∀n,n<=6->FC s l n:=λn hn L rd k A O e=>by
   have r:=mS rd k A e;exact⟨by rw[r.len,ol],λy hy=>(r.k.z hy).mono wp wp⟩
  refine⟨_,e4,_,e6,u4,R,s,Y,l,none,rfl,hT1,r4,M.h,by have:=M.n5;exact aL this wf,rb R (by have:=M.n5;exact aL this wf),λL H2 c v yl rd S2 fy _ n2=>?_⟩;have toH:∀b u,(∀g,u≠HO.tbl g)->H1 b=some u->H2 b=some u:=λb u n e=>(xH (S2 b u (toW b u n e))).2;have i8:=n2.rep λb z=>z.elim;rw[show(λ_:Addr=>False)=Ow (λ_=>[])from funext λb=>propext ⟨False.elim,λhP=>by obtain⟨_,z⟩:=hP;exact(nomatch z)⟩,Ca]at i8;have h2:SR K (λ_=>[]) H2 (σ.set 8 (some v)) (mE D d m s t Y l xs R p (.fz (.lst (L.map bp))) .und .und):=by
   have l11:σ.length=11:=h1.len.symm;refine h1.leap toH (by rw[VT,l11];rfl) λi x I=>?_
   match i,I with
   |0,I|1,I|2,I|3,I|4,I|5,I|6,I|7,I=>cases I;exact .inr ⟨_,rfl,.inl ⟨rfl,by rw[UT wf]⟩⟩
   |8,I=>cases I;exact .inr ⟨_,rfl,.inr ⟨v,by rw[Tx wp],i8⟩⟩
   |9,I|10,I=>cases I;exact .inl rfl
  have h3:=h2.toGh (i:=4) (RX (K:=K) (D:=D) (bu D s Y l)) rfl λu eu=>by
   rw[UT wf,e4]at eu;cases eu;rw[Ca];exact⟨c,fy,r4.same S2⟩
  refine⟨λ_=>[],_,{ nx:=λ_=>False,rt:=λx=>x=.fz (.bl true) },h3,?_,⟨λ_ _ _ _ z=>z.elim,?_,λ_ _ _ _ z=>z.elim,λ_ _ _ _ z=>z.elim,λ_ _ _ _ _ _ z=>z.elim⟩⟩
  .have U:=M.m6;have n5:=M.n5;have hnj:∀k,k<R->1<=k+1/\k+1<=40:=λk O=>by lia
   refine⟨⟨by decide,by decide,by lia,by lia⟩,?_,?_⟩
   .rw[rng,ak,WH];exact aL (show _<=40 by lia) wf
   show iH _ _ _ _ (rng 1 (((R:Int)+1)-1).toNat) _;rw[show(((R:Int)+1)-1).toNat=R by lia];refine Wb (λk:Nat=>L2.T.int ((1:Int)+k)) (λk g=>∃us J lo V:xz,g=.tup [bp lo,bp V]/\L[k]?=some us/\L[k+1]?=some J/\h5 s us J lo V) (range R) (λk O N' M' hN=>?_) λts al=>?_
   .have O:=List.mem_range.mp O;refine⟨rfl,s,Y,l,k+1,?_,M.h,M.hs,by exact Q4 _ _,by lia,rb (k+1) wp,rv (k+1) wp,λkR us J lo V k6 Z X hb=>hN _ ⟨us,J,lo,V,rfl,?_,?_,hb⟩⟩
    .show[bu D s Y l,L2.T.int ((1:Int)+(k:Nat))]=[bu D s Y l,L2.T.int ((k+1:Nat):Int)];rw[show(1:Int)+(k:Nat)=((k+1:Nat):Int)by lia]
    .have ek:=aj (show k<L.length by lia);rw[ek,J5 k6 rd k _ _ Z ek]
    .have ek:=aj (show k+1<L.length by lia);rw[ek,J5 k6 rd (k+1) _ _ X ek]
   obtain⟨k1,k2,_⟩:=M.last;have C:p.2.length=m:=by rw[k2.1,ol]
   refine⟨p.2,m,rfl,C,by exact aL U wf,?_⟩;refine dy (show(!decide (((L.map bp).length:Int)=(R:Int)+1))=false by rw[Zs (by rw[ak,yl];rfl)];rfl) ?_;refine⟨⟨by decide,by decide,by lia,by lia⟩,?_⟩;show yp _ _ _ (rng 1 (((R:Int)+1)-1).toNat) _;rw[show(((R:Int)+1)-1).toNat=R by lia];have at_:=λk(O:k<R)=>EX al (k:=k) (Up O);refine gG (λk:Nat=>L2.T.int ((1:Int)+k)) (range R) (λ_ o=>∃x,o=(mE D d m s t Y l xs R p (.fz (.lst (L.map bp))) (.fz (.lst ts)) x).set 4 (.gh (fh K D (bu D s Y l)) (bu D s Y l))) ⟨_,rfl⟩ ?_ ?_
   .rintro as k bs _ e ⟨x,rfl⟩;have O:k<R:=List.mem_range.mp (by rw[e];simp);obtain⟨g,et,us,J,lo,V,rfl,Z,X,hb⟩:=at_ k O;have W:=M.win rd (n:=k+1) (Q4 _ _) wp Z X hb;have c2:(1:Int)+(k:Nat)=((k+1:Nat):Int):=by lia
    have i1:ca (L.map bp) ((1:Int)+(k:Nat))=some (bp J):=by rw[c2];exact ju X
    have i2:ca ts ((1:Int)+(k:Nat)-1)=some (.tup [bp lo,bp V]):=by rw[show(1:Int)+(k:Nat)-1=(k:Nat)by lia];exact Eg et
    have mP:=mS rd (k+1) J X;have bv:dv J:=λy hy=>(mP.k.z hy).mono wp wp;refine⟨_,i1,J,m,rfl,mP.len,by exact aL U wf,rfl,_,i2,_,i1,s,Y,l,m,k+1,N,p.2,J,lo,V,?_,M.h,ol,by exact aL U wf,by exact Q4 _ _,by lia,rb (k+1) wp,M.B,⟨C,mP.len,W.l1,W.l2⟩,⟨M.wz k1 k2,bv,W.b1,W.b2⟩,W.h1,W.h2,W.c1,W.c2,W.pl,?_⟩
    .show[bu D s Y l,L2.T.int ((1:Int)+(k:Nat)),_,_,_]=[bu D s Y l,L2.T.int ((k+1:Nat):Int),_,_,_];rw[c2]
     rfl
    refine c4 (λh0=>c4 (λhm=>?_) λ_=>⟨_,rfl⟩) λ_=>⟨_,rfl⟩;have k0:1<=k:=by lia
    have m0:0<m:=by lia
    obtain⟨g,et0,us0,vs0,lo0,kD,rfl,f1,f2,hb0⟩:=at_ (k-1) (Nat.sub_lt_of_lt O);rw[show k-1+1=k by exact kn k0,Z]at f2;cases f2;have W0:=M.win rd (n:=k) k0 (aL (Y2 O) n5) f1 Z hb0;obtain⟨a,b,c⟩:=M.near rd k0 wp m0 f1 Z X hb0 hb;have i3:ca ts ((1:Int)+(k:Nat)-2)=some (.tup [bp lo0,bp kD]):=by rw[show(1:Int)+(k:Nat)-2=((k-1:Nat):Int)by lia];exact Eg et0
    exact⟨_,i3,_,i2,s,m,lo0,kD,lo,V,rfl,M.hs,m0,by exact aL U wf,⟨W0.l1,W0.l2,W.l1,W.l2⟩,⟨W0.b1,W0.b2,W.b1,W.b2⟩,a,b,c,_,rfl⟩
   .rintro _ ⟨x,rfl⟩;exact rfl
  .rintro S H3 v _ B rfl _ ⟨_,u,eu,ru⟩ _;cases eu;cases ru;exact hQ H3
end
def law_fn{l:PySem.W.OpenLaw}{w:World}{L:Addr}(T0:∃D:a',D.T_best_rounds=L/\Txt K mg D)(base:Heap)(hB:base.BuiltinsAt mg L)(f:Addr)(G:FuncData)(a:Fun K SN SN Va f G) :
  bW l.prog w K mg base ab 12 f G Qs (Uj K L):=by
 obtain⟨D,rfl,T⟩:=T0;have n8:∀base:Heap,ag l.prog w K mg base 5 jo gY (gW D):=λbase=>by
  have o {k:Nat}{n:Str}{b:Stmt}{F:Φ}{c:Sp} (h:cL K mg n b F) (g:∀f G,Fun K n n b f G->bW l.prog w K mg base ab k f G F c):dL l.prog w K mg base k n F c:=h.ok g;have i {X:eR}{k:Nat}{n m:Str}{b:Stmt}{F:Φ}{f:Addr}{c:Sp} (h:Ce K n m b F f) (g:∀G,Fun K n m b f G->bW l.prog w K mg base X k f G F c):OkI l.prog w K mg base X k f F c:=h.ok g;have d:=o T.Mv λ_ _ a=>Jb a T;have e:=o T.P0 λ_ _ a=>Kw a T;have Z:=o T.ZP λ_ _ a=>Wh a T d e;have u:=o T.aeE λ_ _ a=>Zk Z a;have v:=o T.Za λ_ _ a=>Vd Z a;have t:=o T.ad5 λ_ _ a=>ZM Z a;have j:=o T.aar λ_ _ a=>UL a;have p:=o T.Y7 λ_ _ a=>W5 a e;have q:=i T.Eu λ_ a=>Ey a T;have H:=i T.sX λ_ a=>C_ a T d q;have s:=i T.yQ λ_ a=>Qm a T H;have z:=o T.Cz λ_ _ a=>Ar a T p Z;have E:=o T.Cu λ_ _ a=>zE a T z u v;have y:=o T.DX λ_ _ a=>Ei a T j;have BJ:=o T.Qd λ_ _ a=>M5 a T t;exact o T.QZ λ_ _ a=>OJ a T p E y BJ q s
 have o {k:Nat}{n:Str}{b:Stmt}{F:Φ}{c:Sp} (h:cL K mg n b F) (g:∀f G,Fun K n n b f G->bW l.prog w K mg base ab k f G F c):dL l.prog w K mg base k n F c:=h.ok g;have i {X:eR}{k:Nat}{n m:Str}{b:Stmt}{F:Φ}{f:Addr}{c:Sp} (h:Ce K n m b F f) (g:∀G,Fun K n m b f G->bW l.prog w K mg base X k f G F c):OkI l.prog w K mg base X k f F c:=h.ok g;have d:=o T.Mv λ_ _ a=>Jb a T;have e:=o T.P0 λ_ _ a=>Kw a T;have Z:=o T.ZP λ_ _ a=>Wh a T d e;have u:=o T.aeE λ_ _ a=>Zk Z a;have x:=o T.aeW λ_ _ a=>adS Z a;have v:=o T.Za λ_ _ a=>Vd Z a;have t:=o T.ad5 λ_ _ a=>ZM Z a;have j:=o T.aar λ_ _ a=>UL a;have C:=o T.YG λ_ _ a=>VH a T d e;have p:=o T.Y7 λ_ _ a=>W5 a e;have A:=o T.aaB λ_ _ a=>XQ a T;have jX:=o T.R_ λ_ _ a=>Oa a A C;have eY:=o T.Ep λ_ _ a=>Dq a A;have iu:=o T.KQ λ_ _ a=>JN a T C j;have Us:=o T.f_total λ_ _ a=>ab1 a T p Z;have uR:=o T.N_ λ_ _ a=>Mi a T eY iu Us;have uh:=o T.OD λ_ _ a=>Ld a T u;have S:=i T.Qu λ_ a=>Ri a T jX;have zT:=i T.Qt λ_ a=>S_ a T S eY;have I:=i T.Oi λ_ a=>Oj a T S uR uh;have Av:=i T.Ra λ_ a=>TV a T jX iu x I;have yW:=i T.Uk λ_ a=>Ud a T I;have yV:=i T.Tr λ_ a=>TJ a T;have uL:=o T.Oq λ_ _ a=>L_ a T C j;have v8:=o T.Rk λ_ _ a=>Nu a T A;have qD:=o T.JQ λ_ _ a=>HJ a T yV;have zK:=o T.VP λ_ _ a=>QX a T qD;have zN:=i T.Ti λ_ a=>T4 a T uL v8 zK;have q:=i T.Eu λ_ a=>Ey a T;have H:=i T.sX λ_ a=>C_ a T d q;have s:=i T.yQ λ_ a=>Qm a T H;have Q:=o T.adX λ_ _ a=>abC a e;have Al:=o T.WD λ_ _ a=>S7 a T Q;have Dh:=o T.Yq λ_ _ a=>WW a T e Q;have Az:=o T.U_ λ_ _ a=>Sd a T Al Dh;have U:=o T.U4 λ_ _ a=>SJ a Z;have sW:=o T.Ln λ_ _ a=>Ji a Z;have xJ:=o T.Rr λ_ _ a=>NK a T;have N:=o T.agE λ_ _ a=>adO a Az;have Aw:=o T.Vl λ_ _ a=>Qz a T N U t;have tD:=o T.LQ λ_ _ a=>Jz a T N U x;have Ig:=o T.aaH λ_ _ a=>Xn a T p xJ Aw tD sW;have DP:=o T.X5 λ_ _ a=>V3 a T;have uy:=o T.O7 λ_ _ a=>Nh a T;have z6:=o T.VL λ_ _ a=>Uo a T;have Im:=o T.aaT λ_ _ a=>Xz a T;have zQ:=o T.Uz λ_ _ a=>QD a T;have uf:=o T.Ny λ_ _ a=>La a T DP uy Ig z6 Im zQ;have uO:=o T.O4 λ_ _ a=>Ly a T;have Xo:=o T.aiE λ_ _ a=>_O a T d;have J:=o T.Ug λ_ _ a=>Ol a T Xo q s;have rQ:=o T.KC λ_ _ a=>JB a T s;have yK:=o T.Vj λ_ _ a=>T5 a T uO x v;have V:=o T.Vv λ_ _ a=>Rm a T J rQ yK uf;have z:=o T.Cz λ_ _ a=>Ar a T p Z;have y:=o T.DX λ_ _ a=>Ww a T j;have E:=o T.Cu λ_ _ a=>zE a T z u v;have uJ:=o T.N8 λ_ _ a=>Lg a T y j;have O:=o T.abX λ_ _ a=>aaX a T J p E uJ s;have DQ:=o T.Yg λ_ _ a=>V7 a T J V O;have P:=o T.aiq λ_ _ a=>_m a;have r:=o T.ac6 λ_ _ a=>abH a T;have Qg:=o T.aop λ_ _ a=>OS a T;have B:=o T.abP λ_ _ a=>aax a Qg;have yu:=o T.Wg λ_ _ a=>Tn a T Qg;have fB:=o T.RL λ_ _ a=>NT a T yu;have Kh:=o T.agA λ_ _ a=>_u a T r;have Ss:=o T.aeT λ_ _ a=>ace a T r B;have qA:=o T.anB λ_ _ a=>Po a T B;have Xy:=o T.ajC λ_ _ a=>_f a T r;have Yn:=o T.aib λ_ _ a=>XA a T r B qA;have RM:=o T.aga λ_ _ a=>adN a T P r Yn;have R3:=o T.afK λ_ _ a=>acp a T zT I Av yW;have Yu:=o T.ahI λ_ _ a=>ZA a T Kh R3 zN;have y:=o T.DX λ_ _ a=>Ei a T j;have R7:=o T.agk λ_ _ a=>acS a T j;have w5:=o T.RZ λ_ _ a=>Oe a T d;have BJ:=o T.Qd λ_ _ a=>M5 a T t;have iD:=o T.Nf λ_ _ a=>Jj a T d;have T7:=o T.ae1 λ_ _ a=>_U a T x;have Bs:=o T.aaL λ_ _ a=>XR a T x t v;have R:dL l.prog w K mg base 8 dJ dI (BZ K D):=T.N7.ok λ_ _ _ a hc hC=>KN a hc hC T hB n8 w5 q;have Y:=Yv R;have Bx:=o T.af5 λ_ _ a=>abF a;have Yj:=o T.ajv λ_ _ a=>adJ a;have j5:=o T.Sv λ_ _ a=>Nr a T q s;have Hs:=o T.abx λ_ _ a=>Xj a T j5 DQ;have Ae:=o T.Uu λ_ _ a=>RN a T iD Y T7 Bs R7 y u;have wU:=o T.Sq λ_ _ a=>O6 a T iD Y j5 O;have eU:=o T.Rt λ_ _ a=>NP a T Bx;have M:=o T.ai9 λ_ _ a=>_n a;have JT:=o T.agI λ_ _ a=>acG a T Yj;have Mf:=o T.ac5 λ_ _ a=>abl a T eU M Bx;have KJ:=o T.adZ λ_ _ a=>aaE a T fB eU JT M V wU;exact OQ a T P Xy Ss RM Yu r Hs R Ae fB KJ Mf
end K56
end
open PySem PySem.W PyProof.Rows L2
set_option maxRecDepth 100000 in
set_option maxHeartbeats 0 in
theorem PySem.Challenge.cw_chancehall_k56_whole_bounds_holds : PySem.Challenge.rw_chancehall_k56_whole_bounds.Holds := by
 w_on
 refine holds_law H56.wsd λb=>?_;refine holds_open (q:=H56.qv) (loose:=[]) (XP:=XL H56.qv []) (YP:=InK H56.KHT) H56.left (InK.of H56.asK) InK.keeps H56.hX XL.keeps (by rfl) (by rfl) (by rfl) H56.hR (by rfl) b (by decide +kernel) ⟨rfl,rfl,rfl,rfl,rfl,by decide +kernel⟩ ?hw ?hc
 (case hw=>w_witness2)
 have a:PySem.Challenge.rw_chancehall_k56_whole_bounds=PySem.Challenge.rw_chancehall_k56_whole_bounds/\H56.KH=H56.KH:=by
  k_fill
  exact⟨rfl,rfl⟩
 clear a
 refine L2.ai0 (l:=PySem.Challenge.rw_chancehall_k56_whole_bounds) (k:=12) (x := "_law_script") 423 427 rfl rfl ⟨rfl,by decide,by decide⟩ (λw h Y=>L2.ad2 (K:=H56.KH w.params) (show(H56.KH w.params++[(423,L2.Once.fE)]).In h from Y) (by kernel_rfl)) (λw=>by kernel_rfl) (λw=>by kernel_rfl) ?F
 case F =>
  intro w e i h j G g;refine⟨K56.Va,?_,λbase f d c F=>K56.law_fn ?T base c f d F⟩
  .exact ar
  case T =>
   refine⟨⟨526,547,566,585,602,687,135,136,509,516,544,563,582,599,644,651,672,684,423⟩,rfl,⟨gx,gx,gx,gx,gx,gx,gx,gx,ql,ql,qk,qk,hH,gs,bz,bz,bz,bz,bz,bz,iF,hH,gs,bz,bz,bz,bz,bz,bz,iF,hH,gs,bz,bz,bz,bz,bz,bz,iF,hH,gs,bz,bz,bz,bz,bz,bz,iF,hH,gs,bz,bz,bz,bz,bz,bz,iF,hH,gs,gs,gs,bz,bz,bz,bz,bz,bz,qo,f0,f0,f0,qo,f0,f0,f0,f0,f0,f0,f0,dV,dV,dV,dV,dV,dV,dV,dV,dV,dV,dV,dV,dV,dV,dV,ar,ar,ar,ar,ar,ar,ar,ar,ar,ar,ar,ar,ar,ar,ar,ar,ar,ar,ar,ar,ar,ar,ar,ar,ar,ar,ar,ar,ar,ar,ar,ar,ar,ar,ar,ar,ar,ar,ar,ar,ar,ar,ar,ar,ar,ar,ar,GH 2 λ_ _ _ _ _ _ _ _=>rfl,ar,ar,ar,ar,ar,ar,ar,ar,ar,ar,ar,ar,ar,ar,ar,ar,ar,ar,ar,ar,ar,ar,ar,ar,ar,ar,ar,ar,ar,ar,ar,ar,ar,ar,ar,ar⟩⟩
#print axioms PySem.Challenge.cw_chancehall_k56_whole_bounds_holds
