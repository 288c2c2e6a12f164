import Derived.Test.YtamacmnikdejeaaGreatDoorMHeLaw
import Derived.Test.YtamacmnikdejeaaGreatDoorMHeFacts
import Derived.Test.YtamacmnikdejeaaGreatDoorCards
import Derived.ProofKit
import Derived.OpenShut
import Derived.MakeChecks
import Derived.Deep.Slices
import Derived.Deep.Strs
import Derived.Test.YtamacmnikdejeaaGreatDoorTie
import Derived.Deep.DeepHandedRow
import Derived.Lib.LaidTab
set_option maxRecDepth 100000
set_option linter.unusedSimpArgs false
open Option renaming none->Z,some->T
open Go renaming IntKind.i64->I,World->E,Value->ZB,TypeId->ZH,Proofs.Tryz.prog->Pg
open Bool renaming false->ZA,true->ZD
namespace Go.Proofs.YtamacmnikdejeaaGreatDoor.Hec
open Go.ChangeShapes Go.WideShapes Go.ChangeAt RowKit Go.Deep Vp
abbrev vg:String:=Rows.fnHeartSpec.vars.headD default
theorem cells3:Pg.cellsOf 3=1:=by kernel_rfl
theorem FX:Pg.cellsOf 271=5:=by kernel_rfl
theorem gRows:Pg.globalNamed vg=T 0:=by kernel_rfl
theorem tRows:(Pg.globals[0]?).map (·.type)=T 272:=by kernel_rfl
theorem tPow:(Pg.globals[2]?).map (·.type)=T 330:=by kernel_rfl
theorem Em:Pg.cellsOf 330=20:=by kernel_rfl
theorem En:Pg.cellsOf 290=1:=by kernel_rfl
theorem Gy:∀k:Nat,k<16->∃(s:DataW Unit) (L:List (DataW Unit)),Rows.laid_loop_example_kilndeed_impl_rows=.agg L/\L[k]?=T (.agg [s,.lit (.int I (bT k)),.lit (.int I (dQ k)),.lit (.int I (aS k)),.lit (.int I (bJ k))]):=by intro k hk;rcases(show k=0∨k=1∨k=2∨k=3∨k=4∨k=5∨k=6∨k=7∨k=8∨k=9∨k=10∨k=11∨k=12∨k=13∨k=14∨k=15 by omega) with rfl|rfl|rfl|rfl|rfl|rfl|rfl|rfl|rfl|rfl|rfl|rfl|rfl|rfl|rfl|rfl;all_goals exact⟨_,_,rfl,rfl⟩
theorem hZ {b:List ZB}{o j:Nat}{v:ZB}(f:j<5)(h:(((b.drop o).take 5).drop j).take 1=[v]):b[o+j]?=T v:=by
 have h2:((((b.drop o).take 5).drop j).take 1)[0]?=T v:=by rw[h];rfl
 simpa[UO,f] using h2
theorem xk {W:E}{enc:ZH × ZB->Unit}{sp:Nat->Bool}{x:Bool}{u:Nat}{f:Array ZB}{p:List MemPlace}(g:W.var? Pg vg=T f)
  (ZP:DataW.trod enc Pg W 0 sp x u 272 f.toList=T (Rows.laid_loop_example_kilndeed_impl_rows,p)):Tab W/\Tab2 W:=by
 obtain⟨xs,m,_,z,_,hn,o⟩:=DataW.trod_array Tryz.underlying272 ZP;rw[FX] at o;have j:∀k:Nat,k<16->f.toList[k*5+1]?=T (.int I (bT k))/\f.toList[k*5+2]?=T (.int I (dQ k))/\f.toList[k*5+3]?=T (.int I (aS k))/\f.toList[k*5+4]?=T (.int I (bJ k)):=by
  intro k h;obtain⟨s,L,hL,r⟩:=Gy k h;rw[hL] at z;simp only[KH,DataW.agg.injEq] at z;have b:=o k h;rw[z.1,KN] at r;obtain⟨y,V,q⟩:=NP.1 r;rw[V] at b;obtain⟨i,n,_,B,_,_,l⟩:=DataW.trod_struct Tryz.underlying271 b;have hz:i.map (·.1)=[s,.lit (.int I (bT k)),.lit (.int I (dQ k)),.lit (.int I (aS k)),.lit (.int I (bJ k))]:=by rw[B] at q;simpa using q
  have h1:DataW.trod _ Pg W 0 _ _ n 3 ((((f.toList.drop (k*5)).take 5).drop 1).take (Pg.cellsOf 3))=i[1]?:=l 1 _ rfl;have h2:DataW.trod _ Pg W 0 _ _ n 3 ((((f.toList.drop (k*5)).take 5).drop 2).take (Pg.cellsOf 3))=i[2]?:=l 2 _ rfl;have K:DataW.trod _ Pg W 0 _ _ n 3 ((((f.toList.drop (k*5)).take 5).drop 3).take (Pg.cellsOf 3))=i[3]?:=l 3 _ rfl;have H:DataW.trod _ Pg W 0 _ _ n 3 ((((f.toList.drop (k*5)).take 5).drop 4).take (Pg.cellsOf 3))=i[4]?:=l 4 _ rfl;rw[cells3] at h1 h2 K H;match i,hz with
  |[y0,y1,y2,y3,y4],hz =>
   simp only[PQ,R8,List.cons.injEq,and_true] at hz;obtain⟨z1,G,ZN,_⟩:=SY LK (show DataW.trod _ Pg W 0 _ _ n 3 _=T y1 from h1);obtain⟨z2,ZQ,ZM,_⟩:=SY LK (show DataW.trod _ Pg W 0 _ _ n 3 _=T y2 from h2);obtain⟨z3,C,R,_⟩:=SY LK (show DataW.trod _ Pg W 0 _ _ n 3 _=T y3 from K);obtain⟨S,ZO,ZK,_⟩:=SY LK (show DataW.trod _ Pg W 0 _ _ n 3 _=T y4 from H);have P:z1=bT k:=by have:=hz.2.1;rw[ZN] at this;simpa using this
   have M:z2=dQ k:=by have:=hz.2.2.1;rw[ZM] at this;simpa using this
   have O:z3=aS k:=by have:=hz.2.2.2.1;rw[R] at this;simpa using this
   have ZL:S=bJ k:=by have:=hz.2.2.2.2;rw[ZK] at this;simpa using this
   rw[P] at G;rw[M] at ZQ;rw[O] at C;rw[ZL] at ZO;exact⟨hZ (by omega) G,hZ (by omega) ZQ,hZ (by omega) C,hZ (by omega) ZO⟩
 have t:0<W.heap.size:=by
  have D:=PL gRows g 1;have:=(j 0 (by omega)).1;simp only[QO,IT,LD] at this;rw[this] at D;rcases MG 0 W.heap.size with A|A;{exact A};{simp[World.cell?,MS A] at D}
 refine⟨⟨t,λk h=>?_⟩,⟨t,λk h=>?_⟩⟩;{have c1:=PL gRows g (k*5+1);have c2:=PL gRows g (k*5+2);have b:=j k h;simp only[LD] at b;exact⟨c1.trans b.1,c2.trans b.2.1⟩};{have c3:=PL gRows g (k*5+3);have c4:=PL gRows g (k*5+4);have b:=j k h;simp only[LD] at b;exact⟨c3.trans b.2.2.1,c4.trans b.2.2.2⟩}
theorem Gz {W:E}{enc:ZH × ZB->Unit}{sp:Nat->Bool}{f:Bool}{b:Nat}{g:Array ZB}{p:List MemPlace}(h:W.var? Pg "internal/strconv.uint64pow10"=T g)
  (i:DataW.trod enc Pg W 0 sp f b 330 g.toList=T (Rows.laid_internal_strconv_uint64pow10,p)):Pow W:=by
 have e:=Lib.cells_of_tab (k:=.u64) (zs:=Lib.pow10Tab) Tryz.underlying330 Tryz.underlying290 En Em i;show W.var? Pg _=T _;rw[h,<-e]
theorem tables {W:E}(h:laidMetH Pg Rows.fnHeartRow.laid W):Tab W/\Tab2 W/\Pow W:=by rw[MakeChecks.laidMetH_plain _ _ _ (by kernel_rfl)] at h;obtain⟨ps,⟨g0,t0,cs0,f0,p0,q0,hg0,ht0,hv0,hd0,⟨g1,t1,cs1,f1,p1,q1,hg1,ht1,hv1,hd1,⟨g2,t2,cs2,f2,p2,q2,i,l,g,m,⟨g3,t3,cs3,f3,p3,q3,hg3,ht3,hv3,hd3,⟨g4,t4,cs4,f4,p4,q4,j,n,f,b,_,_⟩,_⟩,_⟩,_⟩,_⟩,_,_⟩:=h;obtain rfl:=IN (gPow.symm.trans i);obtain rfl:=IN (tPow.symm.trans l);obtain rfl:=IN (gRows.symm.trans j);obtain rfl:=IN (tRows.symm.trans n);exact⟨(xk f b).1,(xk f b).2,Gz g m⟩
theorem own:ownKnob Pg.godebug=Z:=by kernel_rfl
theorem laidOut:laidOutB Pg=ZD:=by kernel_rfl
theorem FY:Pg.cellsOf 5=1:=by kernel_rfl
theorem yY {H:Type}{enc:ZH × ZB->H}{W:E}{t:Nat}{v:ZB}{d:DataW H}{p:List MemPlace}(K:Value.okWide Pg W .any t 22 v)
  (h:DataW.Trod enc Pg W 0 (λ_=>ZD) ZD 22 v d p) :
  ∃a n cap,v=.slice a n cap/\(n:Int)<=9223372036854775807/\n<=cap/\ByteSl W a n:=by
 obtain⟨a0,n0,c0,rfl⟩:=okWide_slice NL K;obtain⟨fuel,ZQ⟩:=h;rcases open_slice1 NL FY ZQ with ⟨j,_⟩|⟨a,len,cap,m,k,V,D,Pl,j,hb,ZP,C,x,_,g⟩
 {simp[Value.cells] at j;obtain⟨rfl,rfl,rfl⟩:=j;exact⟨Z,0,0,rfl,by omega,by omega,.inl rfl⟩}
 ·simp[Value.cells] at j;obtain⟨rfl,rfl,rfl⟩:=j;have s:m=c0:=by simpa using x
  subst s;have q:(n0:Int)<=9223372036854775807:=by unfold maxLen at C;omega
  refine⟨_,n0,m,rfl,q,ZP,?_⟩;by_cases hz:n0=0;{exact .inl hz}
  ·obtain⟨b,off,r⟩:=a;have l:r=Z:=by simpa[Addr.add] using World.cell?_spot (g 0 (by omega)).1
   subst l;refine .inr ⟨b,off,rfl,?_,λi hi=>?_⟩;{have:=World.block_lt_of_cell? W _ (g 0 (by omega)).1;simpa[Addr.add] using this}
   ·obtain⟨f,G⟩:=g i (by omega);obtain⟨z,y,_,B⟩:=SY MQ G;rw[add_plain] at f;simp at y;rw[y] at f;have A:0<=z/\z<256:=by
     have o:(decide (IntKind.u8.min<=z) && decide (z<=IntKind.u8.max))=ZD:=B;simp only[nD,p6] at o;have m0:IntKind.u8.min=0:=by decide
     have ZO:IntKind.u8.max=255:=by decide
     rw[m0,ZO] at o;omega
    obtain⟨u,rfl⟩:=AD A.1;exact⟨u,by omega,f⟩
theorem Eo (H:Type)(enc:ZH × ZB->H)(W:E)(u:Nat)(args:Array ZB)(B L:List (DataW H))(i:List MemPlace)
  (f:∀(j:Nat) t v,Tryz.f5.params[j]?=T t->args[j]?=T v->Value.okWide Pg W .any u t v)
  (D:DataW.Whole enc Pg Tryz.f5.params.toList Rows.fnHeartSpec.vars ZA W args.toList B L i) (hL:laidMetH Pg Rows.fnHeartRow.laid W) :
  Calls Pg 5 args W λe y=>∃v,e=.returned v/\Rows.fnHeartSpec.post enc Pg Tryz.f5 ZA ZD ZA ZA W args v y:=by
 have m:=D;obtain⟨p,q,z,ZM,rfl,hfz,hnd⟩:=D;have ZQ:DataW.TrodAll enc Pg W 0 (λ_=>ZD) ZD Tryz.f5.params.toList args.toList B p:=z;rw[Tryz.params5] at ZQ f;obtain⟨C,vs0,d0,ds0,K,q0,hargs,rfl,rfl,G,r0⟩:=trodAll_cons ZQ;obtain⟨rfl,rfl,rfl⟩:=trodAll_nil r0;obtain rfl:args=#[C]:=by cases args;simp_all
 obtain⟨g,t,O,fuel,dg,pg,rfl,r,s,R,ZL,rfl⟩:=trodVars_one ZM;have o:=m.lt;obtain⟨a,n,cap,rfl,hn,ZO,S⟩:=yY (f 0 22 C rfl rfl) G;obtain⟨ZP,M,P⟩:=tables hL;refine(Bc a n cap W ZO S ZP M P).mono λe y ⟨ZN,l⟩=>?_;subst ZN;refine⟨_,rfl,_,_,_,[],K++[],MemPlace.row ⟨g,0,Z⟩ O.size++pg,m,?_,?_,?_,l.frame _,λh=>by cases h⟩;{exact trodAll_cons_mk (shut_bool NF _) trodAll_mk0};{exact trodAll_cons_mk (Below.trod laidOut (by kernel_rfl) (MJ (by kernel_rfl)) G l (λx b=>o x (by simp[b]))) trodAll_mk0}
 ·have e:t=272:=by rw[IN (r.symm.trans gRows)] at s;exact IN (s.symm.trans tRows)
  subst e;have A:∀x∈pg,x.block<W.heap.size:=λx b=>o x (by simp[b]);exact trodVars_mk1 r s (Joins.var_stays r R l ly)
   (DataW.trod_stays (kids_book laidOut (by kernel_rfl)) (book_sized (by kernel_rfl)) (λh=>by cases h) ⟨MJ (by kernel_rfl),book_self 272⟩ ZL (λx b=>l.same (A x b)) (λx b=>by simpa using A x b))
def put (b:Array ZB):Obj->Obj
 |.cells _ t frozen=>.cells b t frozen
 |o=>o
def firstCells:Array ZB:=(Go.Pinned.utf8FirstZ.map (λz:Nat=>Value.int .u8 (z:Int))).toArray
abbrev GA:Array ZB:=#[.slice Z 0 0]
theorem lifted (os:Os)(b:os.Started)(H:Type)(enc:ZH × ZB->H)(F:Stop.Interp):ReturnsInHanded {} Tryz.checked os 5 .any ((OpenSpec.ofChange Rows.fnHeartSpec).preRow enc Pg Tryz.f5 Rows.fnHeartRow.domain ZA Rows.fnHeartRow.laid) (((OpenSpec.ofChange Rows.fnHeartSpec).at F).post enc Pg Tryz.f5 ZA ZD ZA ZA):=by
 refine returnsInHanded_of_row (C:=Tryz.checked) (s:=OpenSpec.ofChange Rows.fnHeartSpec) own b (by kernel_rfl) U6
  (witness_row_at (enc:=enc) (C:=Tryz.checked) ZA
   ({ World.holding Pg os ⟨#[],#[],[]⟩ with heap:=Array.modify (Array.modify (Array.modify (Array.modify (Array.modify (Array.modify (World.holding Pg os ⟨#[],#[],[]⟩).heap 0 (put #[.string ⟨#[]⟩,.int I 0,.int I 0,.int I 0,.int I 0,.string ⟨#[108,105,116]⟩,.int I 2000,.int I 0,.int I 0,.int I 1,.string ⟨#[99,97,116]⟩,.int I 0,.int I 0,.int I 2,.int I 1,.string ⟨#[99,117,116]⟩,.int I 0,.int I 2000,.int I 1,.int I 1,.string ⟨#[114,101,115,116]⟩,.int I 0,.int I 2000,.int I 1,.int I 1,.string ⟨#[119,111,114,100]⟩,.int I 0,.int I 2000,.int I 1,.int I 1,.string ⟨#[115,97,109,101]⟩,.int I 0,.int I 0,.int I 2,.int I 1,.string ⟨#[100,117,112]⟩,.int I 0,.int I 0,.int I 1,.int I 2,.string ⟨#[115,119,97,112]⟩,.int I 0,.int I 0,.int I 2,.int I 2,.string ⟨#[100,114,111,112]⟩,.int I 0,.int I 0,.int I 1,.int I 0,.string ⟨#[106,117,109,112]⟩,.int I 0,.int I 200,.int I 0,.int I 0,.string ⟨#[117,110,108,101,115,115]⟩,.int I 0,.int I 200,.int I 1,.int I 0,.string ⟨#[97,115,107]⟩,.int I 0,.int I 0,.int I 1,.int I 1,.string ⟨#[104,97,115]⟩,.int I 0,.int I 0,.int I 1,.int I 1,.string ⟨#[102,97,105,108]⟩,.int I 0,.int I 0,.int I 1,.int I 0,.string ⟨#[101,110,100]⟩,.int I 0,.int I 0,.int I 1,.int I 0])) 2 (put #[.int .u64 1,.int .u64 10,.int .u64 100,.int .u64 1000,.int .u64 10000,.int .u64 100000,.int .u64 1000000,.int .u64 10000000,.int .u64 100000000,.int .u64 1000000000,.int .u64 10000000000,.int .u64 100000000000,.int .u64 1000000000000,.int .u64 10000000000000,.int .u64 100000000000000,.int .u64 1000000000000000,.int .u64 10000000000000000,.int .u64 100000000000000000,.int .u64 1000000000000000000,.int .u64 10000000000000000000])) 5 (put #[.int .u8 0,.int .u8 1,.int .u8 28,.int .u8 2,.int .u8 29,.int .u8 14,.int .u8 24,.int .u8 3,.int .u8 30,.int .u8 22,.int .u8 20,.int .u8 15,.int .u8 25,.int .u8 17,.int .u8 4,.int .u8 8,.int .u8 31,.int .u8 27,.int .u8 13,.int .u8 23,.int .u8 21,.int .u8 19,.int .u8 16,.int .u8 7,.int .u8 26,.int .u8 12,.int .u8 18,.int .u8 6,.int .u8 11,.int .u8 5,.int .u8 10,.int .u8 9])) 6 (put #[.int .u8 0,.int .u8 1,.int .u8 56,.int .u8 2,.int .u8 57,.int .u8 49,.int .u8 28,.int .u8 3,.int .u8 61,.int .u8 58,.int .u8 42,.int .u8 50,.int .u8 38,.int .u8 29,.int .u8 17,.int .u8 4,.int .u8 62,.int .u8 47,.int .u8 59,.int .u8 36,.int .u8 45,.int .u8 43,.int .u8 51,.int .u8 22,.int .u8 53,.int .u8 39,.int .u8 33,.int .u8 30,.int .u8 24,.int .u8 18,.int .u8 12,.int .u8 5,.int .u8 63,.int .u8 55,.int .u8 48,.int .u8 27,.int .u8 60,.int .u8 41,.int .u8 37,.int .u8 16,.int .u8 46,.int .u8 35,.int .u8 44,.int .u8 21,.int .u8 52,.int .u8 32,.int .u8 23,.int .u8 11,.int .u8 54,.int .u8 26,.int .u8 40,.int .u8 15,.int .u8 34,.int .u8 20,.int .u8 31,.int .u8 10,.int .u8 25,.int .u8 14,.int .u8 19,.int .u8 9,.int .u8 13,.int .u8 8,.int .u8 7,.int .u8 6])) 4 (put #[.int .u8 128,.int .u8 191,.int .u8 160,.int .u8 191,.int .u8 128,.int .u8 159,.int .u8 144,.int .u8 191,.int .u8 128,.int .u8 143,.int .u8 0,.int .u8 0,.int .u8 0,.int .u8 0,.int .u8 0,.int .u8 0,.int .u8 0,.int .u8 0,.int .u8 0,.int .u8 0,.int .u8 0,.int .u8 0,.int .u8 0,.int .u8 0,.int .u8 0,.int .u8 0,.int .u8 0,.int .u8 0,.int .u8 0,.int .u8 0,.int .u8 0,.int .u8 0])) 3 (put firstCells) }:E)
   GA rfl (by kernel_rfl) (by kernel_rfl) (by kernel_rfl)
   (OpenSpec.preRow_of_cond 8 (x:=([.nil],[Rows.laid_loop_example_kilndeed_impl_rows],MemPlace.row ⟨0,0,Z⟩ 80)) (by kernel_rfl) (by kernel_rfl) (λk i=>by cases i) (by kernel_rfl) (laidMet_of_run' 8 (by kernel_rfl) (by kernel_rfl)))) ?_
 intro W g args j m f h l _ _ _ hL _ _;exact Eo H enc W g args j m f h l hL
theorem said:Rows.FnHeartSaid :=
 OpenClaim.holds_of_cond 5 Tryz.f5 rfl rfl rfl rfl rfl rfl rfl ⟨rfl,rfl,rfl,rfl,rfl⟩ rfl rfl rfl rfl rfl (by kernel_rfl) U6 facts
  (MJ (by kernel_rfl)) (by unfold Func.isWrapper;first|(rw[j6 (by decide +kernel)];kernel_rfl)|(rw[eT (by decide +kernel)];exact⟨rfl,rfl⟩))
  (λos b H enc _ F=>by rw[OpenClaim.pre_eq_preRow];exact lifted os b H enc F)
theorem plain (f:FuncId)(fn:Func)(h:Tryz.pinned.checked.prog.funcNamed Rows.fnHeartRow.func=T f)(g:Tryz.pinned.checked.prog.funcs[f]?=T fn):ZD=Tryz.pinned.checked.prog.looks []/\∀(j:Nat) t,fn.params[j]?=T t->Tryz.pinned.checked.prog.wantsStandIn t=ZA:=by
 obtain rfl:f=5:=IN ((show Pg.funcNamed Rows.fnHeartRow.func=T 5 by kernel_rfl).symm.trans h) |>.symm;obtain rfl:fn=Tryz.f5:=(IN (U6.symm.trans g)).symm;refine⟨by kernel_rfl,λj t b=>?_⟩;rw[Tryz.params5] at b;obtain rfl:t=22:=by simpa using Array.mem_of_getElem? b
 exact(show Pg.wantsStandIn 22=ZA by kernel_rfl)
theorem card:Rows.FnHeartCardSaid :=
 Claim7.holds_tied_plain_at .later [] _ _ _ _ said (λ_ h=>by cases h) (by kernel_rfl) (λ_ h=>by cases h) fnHeart_row_tie rfl ⟨rfl,rfl⟩ (by kernel_rfl) rfl plain (by kernel_rfl)
end Go.Proofs.YtamacmnikdejeaaGreatDoor.Hec
namespace Go.Proofs.YtamacmnikdejeaaGreatDoor
theorem fnHeart_card:Rows.FnHeartCardSaid:=Hec.card
#print axioms fnHeart_card
