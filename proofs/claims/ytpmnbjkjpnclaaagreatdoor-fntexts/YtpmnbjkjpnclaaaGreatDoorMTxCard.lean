import Derived.Test.YtpmnbjkjpnclaaaGreatDoorMTxLaw
import Derived.Test.YtpmnbjkjpnclaaaGreatDoorMTxFacts
import Derived.Test.YtpmnbjkjpnclaaaGreatDoorCards
import Derived.ProofKit
import Derived.OpenShut
import Derived.MakeChecks
import Derived.Deep.Slices
import Derived.Deep.Strs
import Derived.Test.YtpmnbjkjpnclaaaGreatDoorTie
import Derived.Deep.DeepHandedRow
import Derived.Lib.LaidTab
set_option maxRecDepth 100000
set_option linter.unusedSimpArgs false
open Option renaming none->Z,some->T
open Go renaming IntKind.i64->I,World->M,Value->ZB,TypeId->ZH,Proofs.Tryz.prog->Pg
open Bool renaming false->ZA,true->ZF
namespace Go.Proofs.YtpmnbjkjpnclaaaGreatDoor.Txc
open Go.ChangeShapes Go.WideShapes Go.ChangeAt RowKit Go.Deep Vp
abbrev tN:String:=Rows.fnTextsSpec.vars.headD default
theorem cells3:Pg.cellsOf 3=1:=by kernel_rfl
theorem En:Pg.cellsOf 324=5:=by kernel_rfl
theorem gRows:Pg.globalNamed tN=T 1:=by kernel_rfl
theorem tRows:(Pg.globals[1]?).map (·.type)=T 325:=by kernel_rfl
theorem tPow:(Pg.globals[2]?).map (·.type)=T 338:=by kernel_rfl
theorem Cm:Pg.cellsOf 338=20:=by kernel_rfl
theorem Cn:Pg.cellsOf 203=1:=by kernel_rfl
theorem Fg:∀k:Nat,k<16->∃(s:DataW Unit) (L:List (DataW Unit)),Rows.laid_loop_example_kilndeed_impl_rows=.agg L/\L[k]?=T (.agg [s,.lit (.int I (bF k)),.lit (.int I (dx k)),.lit (.int I (aJ k)),.lit (.int I (bu k))]):=by intro k hk;rcases(show k=0∨k=1∨k=2∨k=3∨k=4∨k=5∨k=6∨k=7∨k=8∨k=9∨k=10∨k=11∨k=12∨k=13∨k=14∨k=15 by omega) with rfl|rfl|rfl|rfl|rfl|rfl|rfl|rfl|rfl|rfl|rfl|rfl|rfl|rfl|rfl|rfl;all_goals exact⟨_,_,rfl,rfl⟩
theorem gJ {b:List ZB}{o j:Nat}{v:ZB}(f:j<5)(h:(((b.drop o).take 5).drop j).take 1=[v]):b[o+j]?=T v:=by
 have h2:((((b.drop o).take 5).drop j).take 1)[0]?=T v:=by rw[h];rfl
 simpa[NI,f] using h2
theorem vC {W:M}{enc:ZH × ZB->Unit}{sp:Nat->Bool}{x:Bool}{z:Nat}{f:Array ZB}{p:List MemPlace}(g:W.var? Pg tN=T f)
  (ZO:DataW.trod enc Pg W 0 sp x z 325 f.toList=T (Rows.laid_loop_example_kilndeed_impl_rows,p)):Tab W/\Tab2 W:=by
 obtain⟨xs,m,_,A,_,hn,t⟩:=DataW.trod_array Tryz.underlying325 ZO;rw[En] at t;have j:∀k:Nat,k<16->f.toList[k*5+1]?=T (.int I (bF k))/\f.toList[k*5+2]?=T (.int I (dx k))/\f.toList[k*5+3]?=T (.int I (aJ k))/\f.toList[k*5+4]?=T (.int I (bu k)):=by
  intro k h;obtain⟨s,L,hL,o⟩:=Fg k h;rw[hL] at A;simp only[JL,DataW.agg.injEq] at A;have b:=t k h;rw[A.1,JM] at o;obtain⟨y,ZQ,q⟩:=MG.1 o;rw[ZQ] at b;obtain⟨i,n,_,ZP,_,_,l⟩:=DataW.trod_struct Tryz.underlying324 b;have hz:i.map (·.1)=[s,.lit (.int I (bF k)),.lit (.int I (dx k)),.lit (.int I (aJ k)),.lit (.int I (bu k))]:=by rw[ZP] at q;simpa using q
  have h1:DataW.trod _ Pg W 0 _ _ n 3 ((((f.toList.drop (k*5)).take 5).drop 1).take (Pg.cellsOf 3))=i[1]?:=l 1 _ rfl;have h2:DataW.trod _ Pg W 0 _ _ n 3 ((((f.toList.drop (k*5)).take 5).drop 2).take (Pg.cellsOf 3))=i[2]?:=l 2 _ rfl;have H:DataW.trod _ Pg W 0 _ _ n 3 ((((f.toList.drop (k*5)).take 5).drop 3).take (Pg.cellsOf 3))=i[3]?:=l 3 _ rfl;have G:DataW.trod _ Pg W 0 _ _ n 3 ((((f.toList.drop (k*5)).take 5).drop 4).take (Pg.cellsOf 3))=i[4]?:=l 4 _ rfl;rw[cells3] at h1 h2 H G;match i,hz with
  |[y0,y1,y2,y3,y4],hz =>
   simp only[Q2,P9,List.cons.injEq,and_true] at hz;obtain⟨z1,D,ZM,_⟩:=QP J0 (show DataW.trod _ Pg W 0 _ _ n 3 _=T y1 from h1);obtain⟨z2,K,ZK,_⟩:=QP J0 (show DataW.trod _ Pg W 0 _ _ n 3 _=T y2 from h2);obtain⟨z3,B,V,_⟩:=QP J0 (show DataW.trod _ Pg W 0 _ _ n 3 _=T y3 from H);obtain⟨ZL,E,P,_⟩:=QP J0 (show DataW.trod _ Pg W 0 _ _ n 3 _=T y4 from G);have O:z1=bF k:=by have:=hz.2.1;rw[ZM] at this;simpa using this
   have S:z2=dx k:=by have:=hz.2.2.1;rw[ZK] at this;simpa using this
   have R:z3=aJ k:=by have:=hz.2.2.2.1;rw[V] at this;simpa using this
   have ZN:ZL=bu k:=by have:=hz.2.2.2.2;rw[P] at this;simpa using this
   rw[O] at D;rw[S] at K;rw[R] at B;rw[ZN] at E;exact⟨gJ (by omega) D,gJ (by omega) K,gJ (by omega) B,gJ (by omega) E⟩
 have r:1<W.heap.size:=by
  have C:=NO gRows g 1;have:=(j 0 (by omega)).1;simp only[OU,JC,JQ] at this;rw[this] at C;rcases J7 1 W.heap.size with u|u;{exact u};{simp[World.cell?,LA u] at C}
 refine⟨⟨r,λk h=>?_⟩,⟨r,λk h=>?_⟩⟩;{have c1:=NO gRows g (k*5+1);have c2:=NO gRows g (k*5+2);have b:=j k h;simp only[JQ] at b;exact⟨c1.trans b.1,c2.trans b.2.1⟩};{have c3:=NO gRows g (k*5+3);have c4:=NO gRows g (k*5+4);have b:=j k h;simp only[JQ] at b;exact⟨c3.trans b.2.2.1,c4.trans b.2.2.2⟩}
theorem Fh {W:M}{enc:ZH × ZB->Unit}{sp:Nat->Bool}{f:Bool}{b:Nat}{g:Array ZB}{p:List MemPlace}(h:W.var? Pg "internal/strconv.uint64pow10"=T g)
  (i:DataW.trod enc Pg W 0 sp f b 338 g.toList=T (Rows.laid_internal_strconv_uint64pow10,p)):Pow W:=by
 have e:=Lib.cells_of_tab (k:=.u64) (zs:=Lib.pow10Tab) Tryz.underlying338 TJ Cn Cm i;show W.var? Pg _=T _;rw[h,<-e]
theorem tables {W:M}(h:laidMetH Pg Rows.fnTextsRow.laid W):Tab W/\Tab2 W/\Pow W:=by rw[MakeChecks.laidMetH_plain _ _ _ (by kernel_rfl)] at h;obtain⟨ps,⟨g0,t0,cs0,f0,p0,q0,hg0,ht0,hv0,hd0,⟨g1,t1,cs1,f1,p1,q1,hg1,ht1,hv1,hd1,⟨g2,t2,cs2,f2,p2,q2,j,m,l,g,⟨g3,t3,cs3,f3,p3,q3,hg3,ht3,hv3,hd3,⟨g4,t4,cs4,f4,p4,q4,i,n,f,b,_,_⟩,_⟩,_⟩,_⟩,_⟩,_,_⟩:=h;obtain rfl:=IT (gPow.symm.trans j);obtain rfl:=IT (tPow.symm.trans m);obtain rfl:=IT (gRows.symm.trans i);obtain rfl:=IT (tRows.symm.trans n);exact⟨(vC f b).1,(vC f b).2,Fh l g⟩
theorem own:ownKnob Pg.godebug=Z:=by kernel_rfl
theorem laidOut:laidOutB Pg=ZF:=by kernel_rfl
theorem Eo:Pg.cellsOf 5=1:=by kernel_rfl
theorem xF {H:Type}{enc:ZH × ZB->H}{W:M}{t:Nat}{v:ZB}{d:DataW H}{p:List MemPlace}(G:Value.okWide Pg W .any t 22 v)
  (h:DataW.Trod enc Pg W 0 (λ_=>ZF) ZF 22 v d p) :
  ∃a n cap,v=.slice a n cap/\(n:Int)<=9223372036854775807/\n<=cap/\ByteSl W a n:=by
 obtain⟨a0,n0,c0,rfl⟩:=okWide_slice L9 G;obtain⟨fuel,E⟩:=h;rcases open_slice1 L9 Eo E with ⟨g,_⟩|⟨a,len,cap,m,k,V,D,Pl,g,hb,ZO,ZP,x,_,j⟩
 {simp[Value.cells] at g;obtain⟨rfl,rfl,rfl⟩:=g;exact⟨Z,0,0,rfl,by omega,by omega,.inl rfl⟩}
 ·simp[Value.cells] at g;obtain⟨rfl,rfl,rfl⟩:=g;have r:m=c0:=by simpa using x
  subst r;have q:(n0:Int)<=9223372036854775807:=by unfold maxLen at ZP;omega
  refine⟨_,n0,m,rfl,q,ZO,?_⟩;by_cases hz:n0=0;{exact .inl hz}
  ·obtain⟨b,off,s⟩:=a;have l:s=Z:=by simpa[Addr.add] using World.cell?_spot (j 0 (by omega)).1
   subst l;refine .inr ⟨b,off,rfl,?_,λi hi=>?_⟩;{have:=World.block_lt_of_cell? W _ (j 0 (by omega)).1;simpa[Addr.add] using this}
   ·obtain⟨f,C⟩:=j i (by omega);obtain⟨z,y,_,B⟩:=QP LB C;rw[add_plain] at f;simp at y;rw[y] at f;have A:0<=z/\z<256:=by
     have o:(decide (IntKind.u8.min<=z) && decide (z<=IntKind.u8.max))=ZF:=B;simp only[p6,xT] at o;have m0:IntKind.u8.min=0:=by decide
     have K:IntKind.u8.max=255:=by decide
     rw[m0,K] at o;omega
    obtain⟨u,rfl⟩:=AT A.1;exact⟨u,by omega,f⟩
theorem Co (H:Type)(enc:ZH × ZB->H)(W:M)(u:Nat)(args:Array ZB)(y ZN:List (DataW H))(f:List MemPlace)
  (i:∀(j:Nat) t v,Tryz.f3.params[j]?=T t->args[j]?=T v->Value.okWide Pg W .any u t v)
  (D:DataW.Whole enc Pg Tryz.f3.params.toList Rows.fnTextsSpec.vars ZA W args.toList y ZN f) (hL:laidMetH Pg Rows.fnTextsRow.laid W) :
  Calls Pg 3 args W λe z=>∃v,e=.returned v/\Rows.fnTextsSpec.post enc Pg Tryz.f3 ZA ZF ZA ZA W args v z:=by
 have m:=D;obtain⟨p,q,A,ZO,rfl,hfz,hnd⟩:=D;have E:DataW.TrodAll enc Pg W 0 (λ_=>ZF) ZF Tryz.f3.params.toList args.toList y p:=A;rw[Tryz.params3] at E i;obtain⟨C,vs0,d0,ds0,ZM,q0,hargs,rfl,rfl,B,r0⟩:=trodAll_cons E;obtain⟨rfl,rfl,rfl⟩:=trodAll_nil r0;obtain rfl:args=#[C]:=by cases args;simp_all
 obtain⟨g,t,S,fuel,dg,pg,rfl,s,r,L,ZL,rfl⟩:=trodVars_one ZO;have o:=m.lt;obtain⟨a,n,cap,rfl,hn,O,P⟩:=xF (i 0 22 C rfl rfl) B;obtain⟨ZQ,K,ZP⟩:=tables hL;refine(zp a n cap W O P ZQ K ZP).mono λe z ⟨R,l⟩=>?_;subst R;refine⟨_,rfl,_,_,_,[],ZM++[],MemPlace.row ⟨g,0,Z⟩ S.size++pg,m,?_,?_,?_,l.frame _,λh=>by cases h⟩;{exact trodAll_cons_mk (shut_bool LC _) trodAll_mk0};{exact trodAll_cons_mk (Below.trod laidOut (by kernel_rfl) (KP (by kernel_rfl)) B l (λx b=>o x (by simp[b]))) trodAll_mk0}
 ·have e:t=325:=by rw[IT (s.symm.trans gRows)] at r;exact IT (r.symm.trans tRows)
  subst e;have G:∀x∈pg,x.block<W.heap.size:=λx b=>o x (by simp[b]);exact trodVars_mk1 s r (Joins.var_stays s L l ly)
   (DataW.trod_stays (kids_book laidOut (by kernel_rfl)) (book_sized (by kernel_rfl)) (λh=>by cases h) ⟨KP (by kernel_rfl),book_self 325⟩ ZL (λx b=>l.same (G x b)) (λx b=>by simpa using G x b))
def put (b:Array ZB):Obj->Obj
 |.cells _ t frozen=>.cells b t frozen
 |o=>o
def firstCells:Array ZB:=(Go.Pinned.utf8FirstZ.map (λz:Nat=>Value.int .u8 (z:Int))).toArray
abbrev Fi:Array ZB:=#[.slice Z 0 0]
theorem lifted (os:Os)(b:os.Started)(H:Type)(enc:ZH × ZB->H)(F:Stop.Interp):ReturnsInHanded {} Tryz.checked os 3 .any ((OpenSpec.ofChange Rows.fnTextsSpec).preRow enc Pg Tryz.f3 Rows.fnTextsRow.domain ZA Rows.fnTextsRow.laid) (((OpenSpec.ofChange Rows.fnTextsSpec).at F).post enc Pg Tryz.f3 ZA ZF ZA ZA):=by
 refine returnsInHanded_of_row (C:=Tryz.checked) (s:=OpenSpec.ofChange Rows.fnTextsSpec) own b (by kernel_rfl) UF
  (witness_row_at (enc:=enc) (C:=Tryz.checked) ZA
   ({ World.holding Pg os ⟨#[],#[],[]⟩ with heap:=Array.modify (Array.modify (Array.modify (Array.modify (Array.modify (Array.modify (World.holding Pg os ⟨#[],#[],[]⟩).heap 1 (put #[.string ⟨#[]⟩,.int I 0,.int I 0,.int I 0,.int I 0,.string ⟨#[108,105,116]⟩,.int I 2000,.int I 0,.int I 0,.int I 1,.string ⟨#[99,97,116]⟩,.int I 0,.int I 0,.int I 2,.int I 1,.string ⟨#[99,117,116]⟩,.int I 0,.int I 2000,.int I 1,.int I 1,.string ⟨#[114,101,115,116]⟩,.int I 0,.int I 2000,.int I 1,.int I 1,.string ⟨#[119,111,114,100]⟩,.int I 0,.int I 2000,.int I 1,.int I 1,.string ⟨#[115,97,109,101]⟩,.int I 0,.int I 0,.int I 2,.int I 1,.string ⟨#[100,117,112]⟩,.int I 0,.int I 0,.int I 1,.int I 2,.string ⟨#[115,119,97,112]⟩,.int I 0,.int I 0,.int I 2,.int I 2,.string ⟨#[100,114,111,112]⟩,.int I 0,.int I 0,.int I 1,.int I 0,.string ⟨#[106,117,109,112]⟩,.int I 0,.int I 200,.int I 0,.int I 0,.string ⟨#[117,110,108,101,115,115]⟩,.int I 0,.int I 200,.int I 1,.int I 0,.string ⟨#[97,115,107]⟩,.int I 0,.int I 0,.int I 1,.int I 1,.string ⟨#[104,97,115]⟩,.int I 0,.int I 0,.int I 1,.int I 1,.string ⟨#[102,97,105,108]⟩,.int I 0,.int I 0,.int I 1,.int I 0,.string ⟨#[101,110,100]⟩,.int I 0,.int I 0,.int I 1,.int I 0])) 2 (put #[.int .u64 1,.int .u64 10,.int .u64 100,.int .u64 1000,.int .u64 10000,.int .u64 100000,.int .u64 1000000,.int .u64 10000000,.int .u64 100000000,.int .u64 1000000000,.int .u64 10000000000,.int .u64 100000000000,.int .u64 1000000000000,.int .u64 10000000000000,.int .u64 100000000000000,.int .u64 1000000000000000,.int .u64 10000000000000000,.int .u64 100000000000000000,.int .u64 1000000000000000000,.int .u64 10000000000000000000])) 9 (put #[.int .u8 0,.int .u8 1,.int .u8 28,.int .u8 2,.int .u8 29,.int .u8 14,.int .u8 24,.int .u8 3,.int .u8 30,.int .u8 22,.int .u8 20,.int .u8 15,.int .u8 25,.int .u8 17,.int .u8 4,.int .u8 8,.int .u8 31,.int .u8 27,.int .u8 13,.int .u8 23,.int .u8 21,.int .u8 19,.int .u8 16,.int .u8 7,.int .u8 26,.int .u8 12,.int .u8 18,.int .u8 6,.int .u8 11,.int .u8 5,.int .u8 10,.int .u8 9])) 10 (put #[.int .u8 0,.int .u8 1,.int .u8 56,.int .u8 2,.int .u8 57,.int .u8 49,.int .u8 28,.int .u8 3,.int .u8 61,.int .u8 58,.int .u8 42,.int .u8 50,.int .u8 38,.int .u8 29,.int .u8 17,.int .u8 4,.int .u8 62,.int .u8 47,.int .u8 59,.int .u8 36,.int .u8 45,.int .u8 43,.int .u8 51,.int .u8 22,.int .u8 53,.int .u8 39,.int .u8 33,.int .u8 30,.int .u8 24,.int .u8 18,.int .u8 12,.int .u8 5,.int .u8 63,.int .u8 55,.int .u8 48,.int .u8 27,.int .u8 60,.int .u8 41,.int .u8 37,.int .u8 16,.int .u8 46,.int .u8 35,.int .u8 44,.int .u8 21,.int .u8 52,.int .u8 32,.int .u8 23,.int .u8 11,.int .u8 54,.int .u8 26,.int .u8 40,.int .u8 15,.int .u8 34,.int .u8 20,.int .u8 31,.int .u8 10,.int .u8 25,.int .u8 14,.int .u8 19,.int .u8 9,.int .u8 13,.int .u8 8,.int .u8 7,.int .u8 6])) 14 (put #[.int .u8 128,.int .u8 191,.int .u8 160,.int .u8 191,.int .u8 128,.int .u8 159,.int .u8 144,.int .u8 191,.int .u8 128,.int .u8 143,.int .u8 0,.int .u8 0,.int .u8 0,.int .u8 0,.int .u8 0,.int .u8 0,.int .u8 0,.int .u8 0,.int .u8 0,.int .u8 0,.int .u8 0,.int .u8 0,.int .u8 0,.int .u8 0,.int .u8 0,.int .u8 0,.int .u8 0,.int .u8 0,.int .u8 0,.int .u8 0,.int .u8 0,.int .u8 0])) 13 (put firstCells) }:M)
   Fi rfl (by kernel_rfl) (by kernel_rfl) (by kernel_rfl)
   (OpenSpec.preRow_of_cond 8 (x:=([.nil],[Rows.laid_loop_example_kilndeed_impl_rows],MemPlace.row ⟨1,0,Z⟩ 80)) (by kernel_rfl) (by kernel_rfl) (λk i=>by cases i) (by kernel_rfl) (laidMet_of_run' 8 (by kernel_rfl) (by kernel_rfl)))) ?_
 intro W h args m j f g l _ _ _ hL _ _;exact Co H enc W h args m j f g l hL
theorem said:Rows.FnTextsSaid :=
 OpenClaim.holds_of_cond 3 Tryz.f3 rfl rfl rfl rfl rfl rfl rfl ⟨rfl,rfl,rfl,rfl,rfl⟩ rfl rfl rfl rfl rfl (by kernel_rfl) UF facts
  (KP (by kernel_rfl)) (by unfold Func.isWrapper;first|(rw[nL (by decide +kernel)];kernel_rfl)|(rw[eT (by decide +kernel)];exact⟨rfl,rfl⟩))
  (λos b H enc _ F=>by rw[OpenClaim.pre_eq_preRow];exact lifted os b H enc F)
theorem plain (f:FuncId)(fn:Func)(h:Tryz.pinned.checked.prog.funcNamed Rows.fnTextsRow.func=T f)(b:Tryz.pinned.checked.prog.funcs[f]?=T fn):ZF=Tryz.pinned.checked.prog.looks []/\∀(j:Nat) t,fn.params[j]?=T t->Tryz.pinned.checked.prog.wantsStandIn t=ZA:=by
 obtain rfl:f=3:=IT ((show Pg.funcNamed Rows.fnTextsRow.func=T 3 by kernel_rfl).symm.trans h) |>.symm;obtain rfl:fn=Tryz.f3:=(IT (UF.symm.trans b)).symm;refine⟨by kernel_rfl,λj t g=>?_⟩;rw[Tryz.params3] at g;obtain rfl:t=22:=by simpa using Array.mem_of_getElem? g
 exact(show Pg.wantsStandIn 22=ZA by kernel_rfl)
theorem card:Rows.FnTextsCardSaid :=
 Claim7.holds_tied_plain_at .later [] _ _ _ _ said (λ_ h=>by cases h) (by kernel_rfl) (λ_ h=>by cases h) fnTexts_row_tie rfl ⟨rfl,rfl⟩ (by kernel_rfl) rfl plain (by kernel_rfl)
end Go.Proofs.YtpmnbjkjpnclaaaGreatDoor.Txc
namespace Go.Proofs.YtpmnbjkjpnclaaaGreatDoor
theorem fnTexts_card:Rows.FnTextsCardSaid:=Txc.card
#print axioms fnTexts_card
