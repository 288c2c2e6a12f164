import Derived.Test.YthkpcehepgmdgaaGreatDoorTCtLaw
import Derived.Test.YthkpcehepgmdgaaGreatDoorTCtFacts
import Derived.Test.YthkpcehepgmdgaaGreatDoorCards
import Derived.ProofKit
import Derived.OpenShut
import Derived.MakeChecks
import Derived.Deep.Slices
import Derived.Deep.Strs
import Derived.Test.YthkpcehepgmdgaaGreatDoorTie
import Derived.Deep.DeepHandedRow
import Derived.Lib.LaidTab
set_option maxRecDepth 100000
set_option linter.unusedSimpArgs false
open Option renaming none->Y,some->T
open Go renaming IntKind.i64->I,World->G,Value->ZD,TypeId->ZI,Proofs.Tryz.prog->Pg
open Bool renaming false->ZB,true->ZF
namespace Go.Proofs.YthkpcehepgmdgaaGreatDoor.Ctc
open Go.ChangeShapes Go.WideShapes Go.ChangeAt RowKit Go.Deep Vp
abbrev uV:String:=Rows.fnCutSpec.vars.headD default
theorem cells3:Pg.cellsOf 3=1:=by kernel_rfl
theorem FK:Pg.cellsOf 200=5:=by kernel_rfl
theorem gRows:Pg.globalNamed uV=T 0:=by kernel_rfl
theorem tRows:(Pg.globals[0]?).map (·.type)=T 201:=by kernel_rfl
theorem tPow:(Pg.globals[2]?).map (·.type)=T 243:=by kernel_rfl
theorem Ec:Pg.cellsOf 243=20:=by kernel_rfl
theorem Ed:Pg.cellsOf 232=1:=by kernel_rfl
theorem GC:∀k:Nat,k<16->∃(s:DataW Unit) (L:List (DataW Unit)),Rows.laid_loop_example_kilndeed_impl_rows=.agg L/\L[k]?=T (.agg [s,.lit (.int I (bR k)),.lit (.int I (dW k)),.lit (.int I (aO k)),.lit (.int I (bF k))]):=by intro k hk;rcases(show k=0∨k=1∨k=2∨k=3∨k=4∨k=5∨k=6∨k=7∨k=8∨k=9∨k=10∨k=11∨k=12∨k=13∨k=14∨k=15 by omega) with rfl|rfl|rfl|rfl|rfl|rfl|rfl|rfl|rfl|rfl|rfl|rfl|rfl|rfl|rfl|rfl;all_goals exact⟨_,_,rfl,rfl⟩
theorem iw {b:List ZD}{o j:Nat}{v:ZD}(f:j<5)(h:(((b.drop o).take 5).drop j).take 1=[v]):b[o+j]?=T v:=by
 have h2:((((b.drop o).take 5).drop j).take 1)[0]?=T v:=by rw[h];rfl
 simpa[UO,f] using h2
theorem xj {W:G}{enc:ZI × ZD->Unit}{sp:Nat->Bool}{A:Bool}{u:Nat}{f:Array ZD}{p:List MemPlace}(g:W.var? Pg uV=T f)
  (ZQ:DataW.trod enc Pg W 0 sp A u 201 f.toList=T (Rows.laid_loop_example_kilndeed_impl_rows,p)):Tab W/\Tab2 W:=by
 obtain⟨xs,m,_,x,_,hn,o⟩:=DataW.trod_array Tryz.underlying201 ZQ;rw[FK] at o;have j:∀k:Nat,k<16->f.toList[k*5+1]?=T (.int I (bR k))/\f.toList[k*5+2]?=T (.int I (dW k))/\f.toList[k*5+3]?=T (.int I (aO k))/\f.toList[k*5+4]?=T (.int I (bF k)):=by
  intro k h;obtain⟨s,L,hL,t⟩:=GC k h;rw[hL] at x;simp only[KJ,DataW.agg.injEq] at x;have b:=o k h;rw[x.1,HU] at t;obtain⟨y,ZM,q⟩:=MP.1 t;rw[ZM] at b;obtain⟨i,n,_,ZP,_,_,l⟩:=DataW.trod_struct Tryz.underlying200 b;have hz:i.map (·.1)=[s,.lit (.int I (bR k)),.lit (.int I (dW k)),.lit (.int I (aO k)),.lit (.int I (bF k))]:=by rw[ZP] at q;simpa using q
  have h1:DataW.trod _ Pg W 0 _ _ n 3 ((((f.toList.drop (k*5)).take 5).drop 1).take (Pg.cellsOf 3))=i[1]?:=l 1 _ rfl;have h2:DataW.trod _ Pg W 0 _ _ n 3 ((((f.toList.drop (k*5)).take 5).drop 2).take (Pg.cellsOf 3))=i[2]?:=l 2 _ rfl;have D:DataW.trod _ Pg W 0 _ _ n 3 ((((f.toList.drop (k*5)).take 5).drop 3).take (Pg.cellsOf 3))=i[3]?:=l 3 _ rfl;have E:DataW.trod _ Pg W 0 _ _ n 3 ((((f.toList.drop (k*5)).take 5).drop 4).take (Pg.cellsOf 3))=i[4]?:=l 4 _ rfl;rw[cells3] at h1 h2 D E;match i,hz with
  |[y0,y1,y2,y3,y4],hz =>
   simp only[QR,T7,List.cons.injEq,and_true] at hz;obtain⟨z1,C,ZN,_⟩:=RZ LL (show DataW.trod _ Pg W 0 _ _ n 3 _=T y1 from h1);obtain⟨z2,ZS,S,_⟩:=RZ LL (show DataW.trod _ Pg W 0 _ _ n 3 _=T y2 from h2);obtain⟨z3,H,V,_⟩:=RZ LL (show DataW.trod _ Pg W 0 _ _ n 3 _=T y3 from D);obtain⟨R,K,ZL,_⟩:=RZ LL (show DataW.trod _ Pg W 0 _ _ n 3 _=T y4 from E);have O:z1=bR k:=by have:=hz.2.1;rw[ZN] at this;simpa using this
   have P:z2=dW k:=by have:=hz.2.2.1;rw[S] at this;simpa using this
   have M:z3=aO k:=by have:=hz.2.2.2.1;rw[V] at this;simpa using this
   have ZO:R=bF k:=by have:=hz.2.2.2.2;rw[ZL] at this;simpa using this
   rw[O] at C;rw[P] at ZS;rw[M] at H;rw[ZO] at K;exact⟨iw (by omega) C,iw (by omega) ZS,iw (by omega) H,iw (by omega) K⟩
 have r:0<W.heap.size:=by
  have B:=PR gRows g 1;have:=(j 0 (by omega)).1;simp only[T8,E4,KV] at this;rw[this] at B;rcases MJ 0 W.heap.size with z|z;{exact z};{simp[World.cell?,MO z] at B}
 refine⟨⟨r,λk h=>?_⟩,⟨r,λk h=>?_⟩⟩;{have c1:=PR gRows g (k*5+1);have c2:=PR gRows g (k*5+2);have b:=j k h;simp only[KV] at b;exact⟨c1.trans b.1,c2.trans b.2.1⟩};{have c3:=PR gRows g (k*5+3);have c4:=PR gRows g (k*5+4);have b:=j k h;simp only[KV] at b;exact⟨c3.trans b.2.2.1,c4.trans b.2.2.2⟩}
theorem GF {W:G}{enc:ZI × ZD->Unit}{sp:Nat->Bool}{f:Bool}{b:Nat}{g:Array ZD}{p:List MemPlace}(h:W.var? Pg "internal/strconv.uint64pow10"=T g)
  (i:DataW.trod enc Pg W 0 sp f b 243 g.toList=T (Rows.laid_internal_strconv_uint64pow10,p)):Pow W:=by
 have e:=Lib.cells_of_tab (k:=.u64) (zs:=Lib.pow10Tab) Tryz.underlying243 Tryz.underlying232 Ed Ec i;show W.var? Pg _=T _;rw[h,<-e]
theorem tables {W:G}(h:laidMetH Pg Rows.fnCutRow.laid W):Tab W/\Tab2 W/\Pow W:=by rw[MakeChecks.laidMetH_plain _ _ _ (by kernel_rfl)] at h;obtain⟨ps,⟨g0,t0,cs0,f0,p0,q0,hg0,ht0,hv0,hd0,⟨g1,t1,cs1,f1,p1,q1,hg1,ht1,hv1,hd1,⟨g2,t2,cs2,f2,p2,q2,g,n,l,i,⟨g3,t3,cs3,f3,p3,q3,hg3,ht3,hv3,hd3,⟨g4,t4,cs4,f4,p4,q4,m,j,f,b,_,_⟩,_⟩,_⟩,_⟩,_⟩,_,_⟩:=h;obtain rfl:=GD (gPow.symm.trans g);obtain rfl:=GD (tPow.symm.trans n);obtain rfl:=GD (gRows.symm.trans m);obtain rfl:=GD (tRows.symm.trans j);exact⟨(xj f b).1,(xj f b).2,GF l i⟩
theorem own:ownKnob Pg.godebug=Y:=by kernel_rfl
theorem laidOut:laidOutB Pg=ZF:=by kernel_rfl
theorem FM:Pg.cellsOf 5=1:=by kernel_rfl
theorem zb {H:Type}{enc:ZI × ZD->H}{W:G}{q:Nat}{v:ZD}{d:DataW H}{p:List MemPlace}(A:Value.okWide Pg W .any q 22 v)
  (h:DataW.Trod enc Pg W 0 (λ_=>ZF) ZF 22 v d p) :
  ∃a n cap,v=.slice a n cap/\(n:Int)<=9223372036854775807/\n<=cap/\ByteSl W a n:=by
 obtain⟨a0,n0,c0,rfl⟩:=okWide_slice MS A;obtain⟨fuel,B⟩:=h;rcases open_slice1 MS FM B with ⟨g,_⟩|⟨a,len,cap,m,k,V,D,Pl,g,hb,K,ZP,x,_,j⟩
 {simp[Value.cells] at g;obtain⟨rfl,rfl,rfl⟩:=g;exact⟨Y,0,0,rfl,by omega,by omega,.inl rfl⟩}
 ·simp[Value.cells] at g;obtain⟨rfl,rfl,rfl⟩:=g;have t:m=c0:=by simpa using x
  subst t;have r:(n0:Int)<=9223372036854775807:=by unfold maxLen at ZP;omega
  refine⟨_,n0,m,rfl,r,K,?_⟩;by_cases hz:n0=0;{exact .inl hz}
  ·obtain⟨b,off,s⟩:=a;have l:s=Y:=by simpa[Addr.add] using World.cell?_spot (j 0 (by omega)).1
   subst l;refine .inr ⟨b,off,rfl,?_,λi hi=>?_⟩;{have:=OV W _ (j 0 (by omega)).1;simpa[Addr.add] using this}
   ·obtain⟨f,ZQ⟩:=j i (by omega);obtain⟨z,y,_,C⟩:=RZ MG ZQ;rw[add_plain] at f;simp at y;rw[y] at f;have E:0<=z/\z<256:=by
     have o:(decide (IntKind.u8.min<=z) && decide (z<=IntKind.u8.max))=ZF:=C;simp only[j5,nX] at o;have m0:IntKind.u8.min=0:=by decide
     have ZS:IntKind.u8.max=255:=by decide
     rw[m0,ZS] at o;omega
    obtain⟨u,rfl⟩:=p9 E.1;exact⟨u,by omega,f⟩
theorem Ee (H:Type)(enc:ZI × ZD->H)(W:G)(u:Nat)(args:Array ZD)(E ZM:List (DataW H))(f:List MemPlace)
  (i:∀(j:Nat) t v,Tryz.f3.params[j]?=T t->args[j]?=T v->Value.okWide Pg W .any u t v)
  (A:DataW.Whole enc Pg Tryz.f3.params.toList Rows.fnCutSpec.vars ZB W args.toList E ZM f) (hL:laidMetH Pg Rows.fnCutRow.laid W) :
  Calls Pg 3 args W λe z=>∃v,e=.returned v/\Rows.fnCutSpec.post enc Pg Tryz.f3 ZB ZF ZB ZB W args v z:=by
 have o:=A;obtain⟨p,q,D,R,rfl,hfz,hnd⟩:=A;have y:DataW.TrodAll enc Pg W 0 (λ_=>ZF) ZF Tryz.f3.params.toList args.toList E p:=D;rw[Tryz.params3] at y i;obtain⟨ZS,vs0,d0,ds0,M,q0,hargs,rfl,rfl,C,r0⟩:=trodAll_cons y;obtain⟨rfl,rfl,rfl⟩:=trodAll_nil r0;obtain rfl:args=#[ZS]:=by cases args;simp_all
 obtain⟨g,t,O,fuel,dg,pg,rfl,r,s,K,P,rfl⟩:=trodVars_one R;have m:=o.lt;obtain⟨a,n,cap,rfl,hn,ZP,L⟩:=zb (i 0 22 ZS rfl rfl) C;obtain⟨S,ZN,ZO⟩:=tables hL;refine(FJ a n cap W ZP L S ZN ZO).mono λe z ⟨ZQ,l⟩=>?_;subst ZQ;refine⟨_,rfl,_,_,_,[],M++[],MemPlace.row ⟨g,0,Y⟩ O.size++pg,o,?_,?_,?_,l.frame _,λh=>by cases h⟩;{exact trodAll_cons_mk (shut_bool NQ _) trodAll_mk0};{exact trodAll_cons_mk (Below.trod laidOut (by kernel_rfl) (MA (by kernel_rfl)) C l (λx b=>m x (by simp[b]))) trodAll_mk0}
 ·have e:t=201:=by rw[GD (r.symm.trans gRows)] at s;exact GD (s.symm.trans tRows)
  subst e;have B:∀x∈pg,x.block<W.heap.size:=λx b=>m x (by simp[b]);exact trodVars_mk1 r s (Joins.var_stays r K l ly)
   (DataW.trod_stays (kids_book laidOut (by kernel_rfl)) (book_sized (by kernel_rfl)) (λh=>by cases h) ⟨MA (by kernel_rfl),book_self 201⟩ P (λx b=>l.same (B x b)) (λx b=>by simpa using B x b))
def put (b:Array ZD):Obj->Obj
 |.cells _ t frozen=>.cells b t frozen
 |o=>o
def firstCells:Array ZD:=(Go.Pinned.utf8FirstZ.map (λz:Nat=>Value.int .u8 (z:Int))).toArray
abbrev GH:Array ZD:=#[.slice Y 0 0]
theorem lifted (os:Os)(b:os.Started)(H:Type)(enc:ZI × ZD->H)(F:Stop.Interp):ReturnsInHanded {} Tryz.checked os 3 .any ((OpenSpec.ofChange Rows.fnCutSpec).preRow enc Pg Tryz.f3 Rows.fnCutRow.domain ZB Rows.fnCutRow.laid) (((OpenSpec.ofChange Rows.fnCutSpec).at F).post enc Pg Tryz.f3 ZB ZF ZB ZB):=by
 refine returnsInHanded_of_row (C:=Tryz.checked) (s:=OpenSpec.ofChange Rows.fnCutSpec) own b (by kernel_rfl) UZ
  (witness_row_at (enc:=enc) (C:=Tryz.checked) ZB
   ({ World.holding Pg os ⟨#[],#[],[]⟩ with heap:=Array.modify (Array.modify (Array.modify (Array.modify (Array.modify (Array.modify (World.holding Pg os ⟨#[],#[],[]⟩).heap 0 (put #[.string ⟨#[]⟩,.int I 0,.int I 0,.int I 0,.int I 0,.string ⟨#[108,105,116]⟩,.int I 2000,.int I 0,.int I 0,.int I 1,.string ⟨#[99,97,116]⟩,.int I 0,.int I 0,.int I 2,.int I 1,.string ⟨#[99,117,116]⟩,.int I 0,.int I 2000,.int I 1,.int I 1,.string ⟨#[114,101,115,116]⟩,.int I 0,.int I 2000,.int I 1,.int I 1,.string ⟨#[119,111,114,100]⟩,.int I 0,.int I 2000,.int I 1,.int I 1,.string ⟨#[115,97,109,101]⟩,.int I 0,.int I 0,.int I 2,.int I 1,.string ⟨#[100,117,112]⟩,.int I 0,.int I 0,.int I 1,.int I 2,.string ⟨#[115,119,97,112]⟩,.int I 0,.int I 0,.int I 2,.int I 2,.string ⟨#[100,114,111,112]⟩,.int I 0,.int I 0,.int I 1,.int I 0,.string ⟨#[106,117,109,112]⟩,.int I 0,.int I 200,.int I 0,.int I 0,.string ⟨#[117,110,108,101,115,115]⟩,.int I 0,.int I 200,.int I 1,.int I 0,.string ⟨#[97,115,107]⟩,.int I 0,.int I 0,.int I 1,.int I 1,.string ⟨#[104,97,115]⟩,.int I 0,.int I 0,.int I 1,.int I 1,.string ⟨#[102,97,105,108]⟩,.int I 0,.int I 0,.int I 1,.int I 0,.string ⟨#[101,110,100]⟩,.int I 0,.int I 0,.int I 1,.int I 0])) 2 (put #[.int .u64 1,.int .u64 10,.int .u64 100,.int .u64 1000,.int .u64 10000,.int .u64 100000,.int .u64 1000000,.int .u64 10000000,.int .u64 100000000,.int .u64 1000000000,.int .u64 10000000000,.int .u64 100000000000,.int .u64 1000000000000,.int .u64 10000000000000,.int .u64 100000000000000,.int .u64 1000000000000000,.int .u64 10000000000000000,.int .u64 100000000000000000,.int .u64 1000000000000000000,.int .u64 10000000000000000000])) 5 (put #[.int .u8 0,.int .u8 1,.int .u8 28,.int .u8 2,.int .u8 29,.int .u8 14,.int .u8 24,.int .u8 3,.int .u8 30,.int .u8 22,.int .u8 20,.int .u8 15,.int .u8 25,.int .u8 17,.int .u8 4,.int .u8 8,.int .u8 31,.int .u8 27,.int .u8 13,.int .u8 23,.int .u8 21,.int .u8 19,.int .u8 16,.int .u8 7,.int .u8 26,.int .u8 12,.int .u8 18,.int .u8 6,.int .u8 11,.int .u8 5,.int .u8 10,.int .u8 9])) 6 (put #[.int .u8 0,.int .u8 1,.int .u8 56,.int .u8 2,.int .u8 57,.int .u8 49,.int .u8 28,.int .u8 3,.int .u8 61,.int .u8 58,.int .u8 42,.int .u8 50,.int .u8 38,.int .u8 29,.int .u8 17,.int .u8 4,.int .u8 62,.int .u8 47,.int .u8 59,.int .u8 36,.int .u8 45,.int .u8 43,.int .u8 51,.int .u8 22,.int .u8 53,.int .u8 39,.int .u8 33,.int .u8 30,.int .u8 24,.int .u8 18,.int .u8 12,.int .u8 5,.int .u8 63,.int .u8 55,.int .u8 48,.int .u8 27,.int .u8 60,.int .u8 41,.int .u8 37,.int .u8 16,.int .u8 46,.int .u8 35,.int .u8 44,.int .u8 21,.int .u8 52,.int .u8 32,.int .u8 23,.int .u8 11,.int .u8 54,.int .u8 26,.int .u8 40,.int .u8 15,.int .u8 34,.int .u8 20,.int .u8 31,.int .u8 10,.int .u8 25,.int .u8 14,.int .u8 19,.int .u8 9,.int .u8 13,.int .u8 8,.int .u8 7,.int .u8 6])) 4 (put #[.int .u8 128,.int .u8 191,.int .u8 160,.int .u8 191,.int .u8 128,.int .u8 159,.int .u8 144,.int .u8 191,.int .u8 128,.int .u8 143,.int .u8 0,.int .u8 0,.int .u8 0,.int .u8 0,.int .u8 0,.int .u8 0,.int .u8 0,.int .u8 0,.int .u8 0,.int .u8 0,.int .u8 0,.int .u8 0,.int .u8 0,.int .u8 0,.int .u8 0,.int .u8 0,.int .u8 0,.int .u8 0,.int .u8 0,.int .u8 0,.int .u8 0,.int .u8 0])) 3 (put firstCells) }:G)
   GH rfl (by kernel_rfl) (by kernel_rfl) (by kernel_rfl)
   (OpenSpec.preRow_of_cond 8 (x:=([.nil],[Rows.laid_loop_example_kilndeed_impl_rows],MemPlace.row ⟨0,0,Y⟩ 80)) (by kernel_rfl) (by kernel_rfl) (λk i=>by cases i) (by kernel_rfl) (laidMet_of_run' 8 (by kernel_rfl) (by kernel_rfl)))) ?_
 intro W g args j m f h l _ _ _ hL _ _;exact Ee H enc W g args j m f h l hL
theorem said:Rows.FnCutSaid :=
 OpenClaim.holds_of_cond 3 Tryz.f3 rfl rfl rfl rfl rfl rfl rfl ⟨rfl,rfl,rfl,rfl,rfl⟩ rfl rfl rfl rfl rfl (by kernel_rfl) UZ facts
  (MA (by kernel_rfl)) (by unfold Func.isWrapper;first|(rw[hU (by decide +kernel)];kernel_rfl)|(rw[eT (by decide +kernel)];exact⟨rfl,rfl⟩))
  (λos b H enc _ F=>by rw[OpenClaim.pre_eq_preRow];exact lifted os b H enc F)
theorem plain (f:FuncId)(fn:Func)(h:Tryz.pinned.checked.prog.funcNamed Rows.fnCutRow.func=T f)(b:Tryz.pinned.checked.prog.funcs[f]?=T fn):ZB=Tryz.pinned.checked.prog.looks []/\∀(j:Nat) t,fn.params[j]?=T t->Tryz.pinned.checked.prog.wantsStandIn t=ZB:=by
 obtain rfl:f=3:=GD ((show Pg.funcNamed Rows.fnCutRow.func=T 3 by kernel_rfl).symm.trans h) |>.symm;obtain rfl:fn=Tryz.f3:=(GD (UZ.symm.trans b)).symm;refine⟨by kernel_rfl,λj t g=>?_⟩;rw[Tryz.params3] at g;obtain rfl:t=22:=by simpa using Array.mem_of_getElem? g
 exact(show Pg.wantsStandIn 22=ZB by kernel_rfl)
theorem card:Rows.FnCutCardSaid :=
 Claim7.holds_tied_plain_at .later [] _ _ _ _ said (λ_ h=>by cases h) (by kernel_rfl) (λ_ h=>by cases h) fnCut_row_tie rfl ⟨rfl,rfl⟩ (by kernel_rfl) rfl plain (by kernel_rfl)
end Go.Proofs.YthkpcehepgmdgaaGreatDoor.Ctc
namespace Go.Proofs.YthkpcehepgmdgaaGreatDoor
theorem fnCut_card:Rows.FnCutCardSaid:=Ctc.card
#print axioms fnCut_card
