import Derived.Test.YtamacmnikdejeaaGreatDoorZWyLaw
import Derived.Test.YtamacmnikdejeaaGreatDoorZWyFacts
import Derived.Test.YtamacmnikdejeaaGreatDoorCards
import Derived.ProofKit
import Derived.OpenShut
import Derived.MakeChecks
import Derived.Deep.Slices
import Derived.Deep.Strs
import Derived.Test.YtamacmnikdejeaaGreatDoorTie
import Derived.Deep.DeepHandedRow
set_option maxRecDepth 100000
set_option linter.unusedSimpArgs false
open Go.Value renaming slice->Y
open Option renaming none->Z,some->N
open Go.IntKind renaming i64->J
open Go renaming World->H,Value->QS
open Bool renaming false->QQ,true->QR
namespace Go.Proofs.YtamacmnikdejeaaGreatDoor.Wyc
open Go.ChangeShapes Go.WideShapes Go.ChangeAt RowKit Go.Deep Vp
theorem own:ownKnob Tryz.prog.godebug=Z:=by kernel_rfl
theorem laidOut:laidOutB Tryz.prog=QR:=by kernel_rfl
abbrev Ea:String:=Rows.fnWhySpec.vars.headD default
theorem gRows:Tryz.prog.globalNamed Ea=N 0:=by kernel_rfl
theorem tRows:(Tryz.prog.globals[0]?).map (·.type)=N 272:=by kernel_rfl
theorem cells3:Tryz.prog.cellsOf 3=1:=by kernel_rfl
theorem Fz:Tryz.prog.cellsOf 271=5:=by kernel_rfl
theorem FA:Tryz.prog.cellsOf 5=1:=by kernel_rfl
theorem qg {ZB:Type}{enc:TypeId × QS->ZB}{W:H}{o:Nat}{v:QS}{d:DataW ZB}{p:List MemPlace}(G:Value.okWide Tryz.prog W .any o 22 v)
  (h:DataW.Trod enc Tryz.prog W 0 (fun _=>QR) QR 22 v d p) :
  ∃ a n cap,v=Y a n cap/\(n:Int)<=9223372036854775807/\n<=cap/\ByteSl W a n:=by
 obtain⟨a0,n0,c0,rfl⟩:=okWide_slice Tryz.underlying22 G;obtain⟨fuel,B⟩:=h;rcases open_slice1 Tryz.underlying22 FA B with ⟨g,_⟩ | ⟨a,len,cap,m,k,V,D,Pl,g,hb,F,E,t,_,f⟩
 ·simp[Value.cells] at g
  obtain⟨rfl,rfl,rfl⟩:=g;exact⟨Z,0,0,rfl,by omega,by omega,.inl rfl⟩
 ·simp[Value.cells] at g
  obtain⟨rfl,rfl,rfl⟩:=g;have s:m=c0:=by simpa using t
  subst s;have q:(n0:Int)<=9223372036854775807:=by unfold maxLen at E;omega
  refine⟨_,n0,m,rfl,q,F,?_⟩;by_cases hz:n0=0
  ·exact .inl hz
  ·obtain⟨b,off,r⟩:=a
   have j:r=Z:=by simpa[Addr.add] using World.cell?_spot (f 0 (by omega)).1
   subst j;refine .inr ⟨b,off,rfl,?_,fun i hi=>?_⟩
   ·have:=OD W _ (f 0 (by omega)).1
    simpa[Addr.add] using this
   ·obtain⟨c,C⟩:=f i (by omega)
    obtain⟨z,x,_,ZA⟩:=DataW.trod_int Tryz.underlying5 C;rw[add_plain] at c;simp at x;rw[x] at c;have y:0<=z/\z<256:=by
     have l:(decide (IntKind.u8.min<=z) && decide (z<=IntKind.u8.max))=QR:=ZA;simp only[gB,kP] at l;have m0:IntKind.u8.min=0:=by decide
     have A:IntKind.u8.max=255:=by decide
     rw[m0,A] at l;omega
    obtain⟨u,rfl⟩:=nL y.1;exact⟨u,by omega,c⟩
theorem Gi:∀ k:Nat,k<16->∃ (s t p:DataW Unit) (L:List (DataW Unit)),Rows.laid_loop_example_kilndeed_impl_rows=.agg L/\L[k]?=N (.agg [s,.lit (.int J (bW k)),.lit (.int J (fg k)),t,p]):=by intro k hk;rcases(show k=0∨k=1∨k=2∨k=3∨k=4∨k=5∨k=6∨k=7∨k=8∨k=9∨k=10∨k=11∨k=12∨k=13∨k=14∨k=15 by omega) with rfl | rfl | rfl | rfl | rfl | rfl | rfl | rfl | rfl | rfl | rfl | rfl | rfl | rfl | rfl | rfl;all_goals exact⟨_,_,_,_,rfl,rfl⟩
theorem ou {b:List QS}{o j:Nat}{v:QS}(c:j<5)(h:(((b.drop o).take 5).drop j).take 1=[v]):b[o+j]?=N v:=by
 have h2:((((b.drop o).take 5).drop j).take 1)[0]?=N v:=by rw[h];rfl
 simpa[NZ,c] using h2
theorem table {W:H}(h:laidMetH Tryz.prog Rows.fnWhyRow.laid W):Tab W:=by
 rw[MakeChecks.laidMetH_plain _ _ _ (by kernel_rfl)] at h;obtain⟨ps,⟨g0,t0,f,f0,p0,q0,c,F,g,A,_,_⟩,_,_⟩:=h;obtain rfl:=ES (gRows.symm.trans c);obtain rfl:=ES (tRows.symm.trans F);obtain⟨xs,m,_,u,_,hn,l⟩:=DataW.trod_array Tryz.underlying272 A;rw[Fz] at l;have r:∀ k:Nat,k<16->f.toList[k*5+1]?=N (.int J (bW k))/\f.toList[k*5+2]?=N (.int J (fg k)):=by
  intro k j;obtain⟨s,t,p,L,hL,q⟩:=Gi k j;rw[hL] at u;simp only[IT,DataW.agg.injEq] at u;have b:=l k j;rw[u.1,IN] at q;obtain⟨y,Q9,o⟩:=MG.1 q;rw[Q9] at b;obtain⟨i,n,_,z,_,_,C⟩:=DataW.trod_struct Tryz.underlying271 b;have hz:i.map (·.1)=[s,.lit (.int J (bW k)),.lit (.int J (fg k)),t,p]:=by rw[z] at o;simpa using o
  have h1:DataW.trod _ Tryz.prog W 0 _ _ n 3 ((((f.toList.drop (k*5)).take 5).drop 1).take (Tryz.prog.cellsOf 3))=i[1]?:=C 1 _ rfl;have h2:DataW.trod _ Tryz.prog W 0 _ _ n 3 ((((f.toList.drop (k*5)).take 5).drop 2).take (Tryz.prog.cellsOf 3))=i[2]?:=C 2 _ rfl;rw[cells3] at h1 h2;match i,hz with
  | [y0,y1,y2,y3,y4],hz =>
   simp only[NV,QF,List.cons.injEq,and_true] at hz;obtain⟨z1,E,ZB,_⟩:=DataW.trod_int Tryz.underlying3 (show DataW.trod _ Tryz.prog W 0 _ _ n 3 _=N y1 from h1);obtain⟨z2,B,G,_⟩:=DataW.trod_int Tryz.underlying3 (show DataW.trod _ Tryz.prog W 0 _ _ n 3 _=N y2 from h2);have ZA:z1=bW k:=by have:=hz.2.1;rw[ZB] at this;simpa using this
   have K:z2=fg k:=by have:=hz.2.2.1;rw[G] at this;simpa using this
   rw[ZA] at E;rw[K] at B;exact⟨ou (by omega) E,ou (by omega) B⟩
 refine⟨?_,fun k j=>?_⟩
 ·have D:=World.var?_cell c g 1
  have:=(r 0 (by omega)).1;simp only[OT,DN,J0] at this;rw[this] at D;rcases KP 0 W.heap.size with x | x
  ·exact x
  ·simp[World.cell?,MD x] at D
 ·have c1:=World.var?_cell c g (k*5+1)
  have c2:=World.var?_cell c g (k*5+2);have b:=r k j;simp only[J0] at b;exact⟨c1.trans b.1,c2.trans b.2⟩
theorem Eb (ZB:Type)(enc:TypeId × QS->ZB)(W:H)(u:Nat)(args:Array QS)(F QY:List (DataW ZB))(l:List MemPlace)
  (f:∀ (j:Nat) t v,Tryz.f4.params[j]?=N t->args[j]?=N v->Value.okWide Tryz.prog W .any u t v)
  (B:DataW.Whole enc Tryz.prog Tryz.f4.params.toList Rows.fnWhySpec.vars QQ W args.toList F QY l) (hL:laidMetH Tryz.prog Rows.fnWhyRow.laid W) :
  Calls Tryz.prog 4 args W fun e E=>∃ v,e=.returned v/\Rows.fnWhySpec.post enc Tryz.prog Tryz.f4 QQ QR QQ QQ W args v E:=by
 have r:=B;obtain⟨p,q,C,S,rfl,hfz,hnd⟩:=B;have A:DataW.TrodAll enc Tryz.prog W 0 (fun _=>QR) QR Tryz.f4.params.toList args.toList F p:=C;rw[Tryz.params4] at A f;obtain⟨D,vs0,d0,ds0,QZ,q0,hargs,rfl,rfl,L,r0⟩:=trodAll_cons A;obtain⟨K,vs1,d1,ds1,V,q1,rfl,rfl,rfl,h1,r1⟩:=trodAll_cons r0;obtain⟨rfl,rfl,rfl⟩:=trodAll_nil r1;obtain rfl:args=#[D,K]:=by cases args;simp_all
 obtain⟨g,t,P,fuel,dg,pg,rfl,s,y,Q2,M,rfl⟩:=trodVars_one S;have i:=r.lt;obtain⟨a,n,cap,rfl,hn,R,Q0⟩:=qg (f 0 22 D rfl rfl) L;obtain⟨b,m,z,rfl,hm,Q9,G⟩:=qg (f 1 22 K rfl rfl) h1;refine(DZ a n cap b m z W R Q9 Q0 G (table hL)).mono fun e E ⟨O,o⟩=>?_;subst O;refine⟨_,rfl,_,_,_,[],QZ++(V++[]),MemPlace.row ⟨g,0,Z⟩ P.size++pg,r,?_,?_,?_,o.frame _,fun h=>by cases h⟩
 ·exact trodAll_cons_mk (shut_bool Tryz.underlying4 _) trodAll_mk0
 ·exact trodAll_cons_mk (Below.trod laidOut (by kernel_rfl) (J8 (by kernel_rfl)) L o (fun x c=>i x (by simp[c]))) (trodAll_cons_mk (Below.trod laidOut (by kernel_rfl) (J8 (by kernel_rfl)) h1 o (fun x c=>i x (by simp[c]))) trodAll_mk0)
 ·have e:t=272:=by rw[ES (s.symm.trans gRows)] at y;exact ES (y.symm.trans tRows)
  subst e;have ZA:∀ x∈pg,x.block<W.heap.size:=fun x c=>i x (by simp[c])
  exact trodVars_mk1 s y (Joins.var_stays s Q2 o ly)
   (DataW.trod_stays (kids_book laidOut (by kernel_rfl)) (book_sized (by kernel_rfl)) (fun h=>by cases h) ⟨J8 (by kernel_rfl),book_self 272⟩ M (fun x c=>o.same (ZA x c)) (fun x c=>by simpa using ZA x c))
abbrev Gj:Array QS:=#[Y Z 0 0,Y Z 0 0]
theorem lifted (os:Os)(b:os.Started)(ZB:Type)(enc:TypeId × QS->ZB)(F:Stop.Interp):ReturnsInHanded {} Tryz.checked os 4 .any ((OpenSpec.ofChange Rows.fnWhySpec).preRow enc Tryz.prog Tryz.f4 Rows.fnWhyRow.domain QQ Rows.fnWhyRow.laid) (((OpenSpec.ofChange Rows.fnWhySpec).at F).post enc Tryz.prog Tryz.f4 QQ QR QQ QQ):=by
 refine returnsInHanded_of_row (C:=Tryz.checked) (s:=OpenSpec.ofChange Rows.fnWhySpec) own b (by kernel_rfl) Tryz.func4
  (witness_row_at (enc:=enc) (C:=Tryz.checked) QQ
   ({ World.holding Tryz.prog os ⟨#[],#[],[]⟩ with heap:=(World.holding Tryz.prog os ⟨#[],#[],[]⟩).heap.modify 0 fun
   | .cells _ t frozen=>.cells #[.string ⟨#[]⟩,.int J 0,.int J 0,.int J 0,.int J 0,.string ⟨#[108,105,116]⟩,.int J 2000,.int J 0,.int J 0,.int J 1,.string ⟨#[99,97,116]⟩,.int J 0,.int J 0,.int J 2,.int J 1,.string ⟨#[99,117,116]⟩,.int J 0,.int J 2000,.int J 1,.int J 1,.string ⟨#[114,101,115,116]⟩,.int J 0,.int J 2000,.int J 1,.int J 1,.string ⟨#[119,111,114,100]⟩,.int J 0,.int J 2000,.int J 1,.int J 1,.string ⟨#[115,97,109,101]⟩,.int J 0,.int J 0,.int J 2,.int J 1,.string ⟨#[100,117,112]⟩,.int J 0,.int J 0,.int J 1,.int J 2,.string ⟨#[115,119,97,112]⟩,.int J 0,.int J 0,.int J 2,.int J 2,.string ⟨#[100,114,111,112]⟩,.int J 0,.int J 0,.int J 1,.int J 0,.string ⟨#[106,117,109,112]⟩,.int J 0,.int J 200,.int J 0,.int J 0,.string ⟨#[117,110,108,101,115,115]⟩,.int J 0,.int J 200,.int J 1,.int J 0,.string ⟨#[97,115,107]⟩,.int J 0,.int J 0,.int J 1,.int J 1,.string ⟨#[104,97,115]⟩,.int J 0,.int J 0,.int J 1,.int J 1,.string ⟨#[102,97,105,108]⟩,.int J 0,.int J 0,.int J 1,.int J 0,.string ⟨#[101,110,100]⟩,.int J 0,.int J 0,.int J 1,.int J 0] t frozen
   | o=>o }:H)
   Gj rfl (by kernel_rfl) (by kernel_rfl) (by kernel_rfl)
   (OpenSpec.preRow_of_cond 8 (x:=([.nil,.nil],[Rows.laid_loop_example_kilndeed_impl_rows],MemPlace.row ⟨0,0,Z⟩ 80)) (by kernel_rfl) (by kernel_rfl) (fun k j=>by cases j) (by kernel_rfl) (laidMet_of_run' 8 (by kernel_rfl) (by kernel_rfl)))) ?_
 intro W g args l i c f h _ _ _ hL _ _;exact Eb ZB enc W g args l i c f h hL
theorem said:Rows.FnWhySaid :=
 OpenClaim.holds_of_cond 4 Tryz.f4 rfl rfl rfl rfl rfl rfl rfl ⟨rfl,rfl,rfl,rfl,rfl⟩ rfl rfl rfl rfl rfl (by kernel_rfl) Tryz.func4 facts
  (J8 (by kernel_rfl)) (by unfold Func.isWrapper;first | (rw[gA (by decide +kernel)];kernel_rfl) | (rw[eI (by decide +kernel)];exact⟨rfl,rfl⟩))
  (fun os b ZB enc _ F=>by rw[OpenClaim.pre_eq_preRow];exact lifted os b ZB enc F)
theorem plain (f:FuncId)(fn:Func)(g:Tryz.pinned.checked.prog.funcNamed Rows.fnWhyRow.func=N f)(c:Tryz.pinned.checked.prog.funcs[f]?=N fn):QR=Tryz.pinned.checked.prog.looks []/\∀ (j:Nat) t,fn.params[j]?=N t->Tryz.pinned.checked.prog.wantsStandIn t=QQ:=by
 obtain rfl:f=4:=ES ((show Tryz.prog.funcNamed Rows.fnWhyRow.func=N 4 by kernel_rfl).symm.trans g) |>.symm;obtain rfl:fn=Tryz.f4:=(ES (Tryz.func4.symm.trans c)).symm;refine⟨by kernel_rfl,fun j t b=>?_⟩;rw[Tryz.params4] at b;obtain rfl:t=22:=by simpa using Array.mem_of_getElem? b
 exact(show Tryz.prog.wantsStandIn 22=QQ by kernel_rfl)
theorem card:Rows.FnWhyCardSaid :=
 Claim7.holds_tied_plain_at .later [] _ _ _ _ said (fun _ h=>by cases h) (by kernel_rfl) (fun _ h=>by cases h) fnWhy_row_tie rfl ⟨rfl,rfl⟩ (by kernel_rfl) rfl plain (by kernel_rfl)
end Go.Proofs.YtamacmnikdejeaaGreatDoor.Wyc
namespace Go.Proofs.YtamacmnikdejeaaGreatDoor
theorem fnWhy_card:Rows.FnWhyCardSaid:=Wyc.card
#print axioms fnWhy_card
end Go.Proofs.YtamacmnikdejeaaGreatDoor
