import Derived.Test.YtoddkejemcbkmaaGreatDoorRN
import Derived.Deep.AppendSrc
import Derived.Deep.Upon
import Derived.Lib.ConvBytes
import Derived.Lib.BufferMore
set_option maxRecDepth 100000
set_option maxHeartbeats 4000000
open Go renaming Addr.mk->Q,Value.slice->Z,Value.string->U,Value.int->J,Obj.cells->N,IntKind.i64->I,World->M,Value->ZC,Ending.returned->ZF,Proofs.Tryz.prog->Pg
open Option renaming none->Y,some->T
open Bool renaming true->ZG
namespace Go.Proofs.YtoddkejemcbkmaaGreatDoor.Vp
open RowKit
variable {w:M}{B b:Nat}{l:List UInt8}{rest:List Oper}{o:Oper}{a:Act}{ZM:Exit->Act->M->Prop}
def MB (w:M)(c:Nat)(v:ZC)(l:List UInt8):Prop :=
 ∃g cap b fz,v=Z (T (Q g 0 Y)) l.length cap/\c<=g/\w.heap[g]?=T (N b 5 fz)/\(fz=(0,0)∨fz=(cap,cap+1))/\l.length<=cap/\cap<=maxLen/\b.size=cap/\∀j:Nat,j<l.length->b[j]?=(Lib.byteCells l)[j]?
theorem MB.aa{f:M}{v:ZC}(h:MB w b v l)(hb:Below B w f)(i:w.heap.size<=B):MB f b v l:=by obtain⟨g,cap,c,fz,h1,h2,h3,r⟩:=h;exact⟨g,cap,c,fz,h1,h2,by rw[hb.block g (lj (gM.1 h3).1 i)];exact h3,r⟩
theorem MB.lt{v:ZC}(h:MB w b v l):∀k,v.ownBlock=T k->b<=k/\k<w.heap.size:=by obtain⟨g,cap,cur,fz,rfl,h2,h3,r⟩:=h;intro k c;simp[Value.ownBlock] at c;subst c;exact⟨h2,(gM.1 h3).1⟩
theorem setCells_at (g:Nat)(t:TypeId)(fz:Nat × Nat):∀(h:List ZC) (o:Nat) (c:Array ZC) (w:M),w.heap[g]?=T (N c t fz)->o+h.length<=c.size ->
  ∃b,(w.setCells g o h).heap[g]?=T (N b t fz)/\b.size=c.size/\(∀j,j<o->b[j]?=c[j]?)/\∀j,j<h.length->b[o+j]?=h[j]?
 |[],o,c,w,hg,_=>⟨c,hg,rfl,λ_ _=>rfl,λj f=>absurd f (NV _)⟩
 |v::r,o,c,w,hg,hl=>by
  simp only[eT] at hl;obtain⟨b,h1,h2,h3,h4⟩:=setCells_at g t fz r (o+1) (c.setIfInBounds o v) (w.setCell (Q g o Y) v) (Lib.heap_setCell_same hg v) (by simp;omega);refine⟨b,h1,by simpa using h2,λj f=>?_,λj f=>?_⟩
  ·rw[h3 j (by omega)]
   simp[Array.getElem?_setIfInBounds];omega
  ·cases j with
   |zero =>rw[NS,h3 o (by omega)];simp[Array.getElem?_setIfInBounds];omega
   |succ j =>simp only[eT] at f;have:=h4 j (by omega);rw[show o+(j+1)=o+1+j by omega,this];simp
theorem mx (g:Nat):∀(b:List ZC) (o:Nat) (w:M),(w.setCells g o b).os=w.os/\(w.setCells g o b).tape=w.tape/\(w.setCells g o b).output=w.output/\(w.setCells g o b).heap.size=w.heap.size
 |[],_,_=>⟨rfl,rfl,rfl,rfl⟩
 |v::r,o,w=>by obtain⟨h1,h2,h3,h4⟩:=mx g r (o+1) (w.setCell (Q g o Y) v);exact⟨h1,h2,h3,by rw[show(w.setCells g o (v::r)).heap.size=((w.setCell (Q g o Y) v).setCells g (o+1) r).heap.size from rfl,h4];simp⟩
theorem Aw (w:M)(n:Nat)(ty tx:TypeId)(v:ZC)(l:List UInt8)(h:MB w n v l)(x:ZC)(b:List UInt8)(R:Src Pg 1 tx x b.length (Lib.byteCells b) w)(hb:l.length+b.length<=140737488355328)(y:n<=w.heap.size):∃O C,(Builtin.append_ #[22,tx] ty #[v,x]).run Pg w=.ok O C/\MB C n O (l++b)/\w.grownBy C v.ownBlock:=by
 obtain⟨i,hi,S,c,K⟩:=LY xY;obtain⟨g,cap,q,fz,rfl,ZQ,p,A,hlc,ZM,hcs,f⟩:=h;have r:=M5 l;have D:=M5 b;have s:Lib.byteCells (l++b)=Lib.byteCells l++Lib.byteCells b:=by simp[Lib.byteCells]
 by_cases o:l.length+b.length<=cap
 ·have hc:∀j,j<(Lib.byteCells b).length->(w.cell? (Q g (0+l.length*i.size+j) Y)).isSome=ZG:=by
   intro j m;rw[c];have:l.length+j<q.size:=by omega
   simp[World.cell?,p,this]
  have hf:∀j,j<(Lib.byteCells b).length->w.frozen? (Q g (0+l.length*i.size+j) Y)=false:=by
   intro j m;rw[c];rcases A with rfl|rfl;{simp[World.frozen?,p]};{simp[World.frozen?,p];omega}
  have z:=run_append_room_src (P:=Pg) w 22 tx ty 5 i MF hi g 0 l.length cap x b.length (Lib.byteCells b) (by rw[c];exact R) o hc hf;have V:0+l.length*i.size=l.length:=by rw[c];omega
  rw[V] at z;obtain⟨ZP,ZI,k2,ZJ,k4⟩:=setCells_at g 5 fz (Lib.byteCells b) l.length q w p (by omega);obtain⟨r1,ZK,W,r4⟩:=mx g (Lib.byteCells b) l.length w;refine⟨_,_,z,⟨g,cap,ZP,fz,by rw[cM],ZQ,ZI,A,by rw[cM];exact o,ZM,by omega,λj m=>?_⟩,⟨r1,ZK,W,by omega,λk F ZN=>World.heap_setCells_other w g l.length (Lib.byteCells b) F (λe=>ZN (by simp[Value.ownBlock,e]))⟩⟩;rw[s];rw[cM] at m;by_cases B:j<l.length;{rw[ZJ j B,f j B,MM (by omega)]};{have:=k4 (j - l.length) (by omega);rw[show l.length+(j - l.length)=j by omega] at this;rw[this,I5 (by omega),r]}
 ·have t:∀j u,(Lib.byteCells l)[j]?=T u->w.drew.cell? (((Q g 0 Y):Addr).add j)=T u:=by
   intro j u G;have m:j<l.length:=by
    rcases N1 j l.length with ZO|ZO;{exact ZO};{rw[MR (by omega)] at G;cases G}
   have h1:=f j m;rw[G] at h1;have L:w.drew.heap[g]?=T (N q 5 fz):=p;have E:((Q g 0 Y):Addr).add j=(Q g j Y):=by unfold Addr.add;split<;>simp_all
   rw[E];simp only[World.cell?,L];exact h1
  have H:=run_firstCells_some (P:=Pg) w.drew i.size l.length (Q g 0 Y) l.length cap (Lib.byteCells l) (by rw[c,r];omega) t;have X:l.length+b.length<=maxLen:=by unfold maxLen;omega
  have z:=run_append_grow_src (P:=Pg) w 22 tx ty 5 i (J .u8 0) MF hi S (T (Q g 0 Y)) l.length cap (Lib.byteCells l) H x b.length (Lib.byteCells b) (by rw[c];exact R) (by omega) (by omega) (by rw[K];exact growslice_fits (by omega) (by omega));refine⟨_,_,z,⟨w.heap.size,_,_,(0,0),by rw[cM],y,n6 w.drew _,.inl rfl,by rw[cM];exact grownCap_ge w _ cap _,U4 w _ cap _ X,?_,λj m=>?_⟩,⟨rfl,rfl,rfl,by simp,λk F _=>VE w.drew _ k F⟩⟩;{have ZL:(Value.int IntKind.u8 0).cells.size=1:=rfl;have hge:=grownCap_ge w (l.length+b.length) cap 5;simp only[Array.size_append,CX,cM,size_zeroCells,ZL,r,D];omega};{rw[s];rw[cM] at m;rw[RQ (by simp;omega)];simp}
theorem Ax{i:Array Oper}(n:o.guard=Y)(sl x:Operand)
  (u:o.op=.call { callee:=.builtin .append,args:=#[sl,x],argTypes:=#[22,9] }) (b:Nat) (v:ZC) (l:List UInt8) (r:a.eval sl=v) (j:MB w b v l)
  (s:ByteArray) (q:a.eval x=U s) (hb:l.length+s.size<=140737488355328) (f:b<=w.heap.size)
  (h:∀g c,MB c b g (l++s.data.toList)->w.grownBy c v.ownBlock->wpList Pg i ZM rest (a.put o.dst g) c):wpList Pg i ZM (o::rest) a w:=by
 refine wpList_plain n λK p=>?_;have m:Src Pg 1 9 (U s) s.data.toList.length (Lib.byteCells s.data.toList) w:=by
  have h1:=Src.ofString (P:=Pg) w (tx:=9) IN s;have e:s.data.toList.length=s.size:=by simp
  rw[e];exact h1
 obtain⟨g,c,t,h2,h3⟩:=Aw w b o.type 9 v l j (U s) s.data.toList m (by have e:s.data.toList.length=s.size:=(by simp);omega) f;unfold Oper.wp execOp;simp only[u,resolve,invoke,builtin,UO,UR,RB,RY,MX,MZ,r,q,t];exact p _ _ (h g c h2 h3)
theorem IZ{q:Array Oper}(t:o.guard=Y)(sl x:Operand)
  (C:o.op=.call { callee:=.builtin .append,args:=#[sl,x],argTypes:=#[22,22] }) (f:Nat) (v:ZC) (l:List UInt8) (A:a.eval sl=v) (r:MB w f v l)
  (g:Addr) (c:Nat) (b:List UInt8) (z:a.eval x=Z (T g) b.length c) (i:∀j u,(Lib.byteCells b)[j]?=T u->w.cell? (g.add j)=T u) (hb:l.length+b.length<=140737488355328) (n:f<=w.heap.size)
  (h:∀p m,MB m f p (l++b)->w.grownBy m v.ownBlock->wpList Pg q ZM rest (a.put o.dst p) m):wpList Pg q ZM (o::rest) a w:=by
 refine wpList_plain t λK y=>?_;have s:Src Pg 1 22 (Z (T g) b.length c) b.length (Lib.byteCells b) w:=Src.ofSlice (P:=Pg) w MF g b.length c (Lib.byteCells b) (by rw[M5];omega) i (by simp[Lib.byteCells,Value.oneCell']);obtain⟨p,m,B,h2,h3⟩:=Aw w f o.type 22 v l r (Z (T g) b.length c) b s hb n;unfold Oper.wp execOp;simp only[C,resolve,invoke,builtin,UO,UR,RB,RY,MX,MZ,A,z,B];exact y _ _ (h p m h2 h3)
theorem yz{f:Nat->Deed}{n p:Nat}(h:dc f n=ZG)(q:p<n)(a0:Option Addr)(b:Nat)(a1:Option Addr)(c:Nat)(w:M)(o:SlIns w a0 (f p).f (f p).G)(hL:SlLink w a1 (f p).b (f p).m):Calls Pg 30 #[.agg #[U (f p).e,J I (f p).E,J I (f p).B,U (f p).h,Z a0 (f p).f b,Z a1 (f p).b c]] w λe r=>∃v i,e=ZF v/\sT w r (f p) v i:=by
 obtain⟨h1,h2,h3⟩:=lK h p q;have hn:=fN h;rcases h3 with h3|h3|⟨g,c1,c2,c3,c4,c5,j⟩
 {exact yi (f p) a0 b a1 c w h1 h2 h3};{exact vG (f p) a0 b a1 c w h1 h3};{refine yk (f p) a0 b a1 c w o hL h1 h2 c1 c2 c3 c4 c5 (λk g=>?_) g;obtain⟨m,l,q3⟩:=iK (fM j k g);exact⟨m,l,by omega⟩}
theorem Ay{v:ZC}{b:List ByteArray}(h:w.ownsRow B 9 1 v b.length (fi b))(m:b≠[]):∃g cap c,v=Z (T (Q g 0 Y)) b.length cap/\B<=g/\w.heap[g]?=T (N c 9)/\∀(j:Nat) (x:ByteArray),b[j]?=T x->c[j]?=T (Value.string x):=by
 rcases h.2 with ⟨_,hz⟩|⟨g,cap,c,p,n,o,hnc,hcm,hcs,f⟩
 {exact absurd (by simpa using hz) m}
 ·refine⟨g,cap,c,p,n,o,λj x l=>?_⟩;have hj:j<b.length:=by
   rcases N1 j b.length with i|i;{exact i};{rw[MR i] at l;cases l}
  have h1:(c.toList.take (b.length*1))[j]?=T (U x):=by rw[f];simp[fi,l]
  rw[U5] at h1;rw[p7 (by omega)] at h1;simpa using h1
theorem tS{j:M}{g:Nat}{v:ZC}{c:Array ZC}(m:MB w B v l)(f:w.heap[g]?=T (N c 9))(i:w.grownBy j v.ownBlock):j.heap[g]?=T (N c 9):=by
 have h:g<w.heap.size:=(gM.1 f).1;rw[i.block g h ?_];{exact f};{intro e;obtain⟨g',cap,c',fz,rfl,_,b,_⟩:=m;simp[Value.ownBlock] at e;subst e;rw[f] at b;injection b with h1;injection h1 with _ h2;exact absurd h2 (by decide)}
theorem Gg (w:M)(s:ByteArray)(g:s.size<=maxLen):MB (Lib.bytesWorld w 5 s) w.heap.size (Z (T (Q w.heap.size 0 Y)) s.size (grownCap w s.size 0 5)) s.data.toList:=by
 have e:s.data.toList.length=s.size:=by simp
 have f:=grownCap_ge w s.size 0 5;have b:(Lib.bytesCells w 5 s).size=grownCap w s.size 0 5:=by have c:s.data.size=s.size:=rfl;simp[Lib.bytesCells,c];omega
 refine⟨w.heap.size,grownCap w s.size 0 5,Lib.bytesCells w 5 s,_,by rw[e],n8 _,Lib.bytesWorld_at_new w _ s,.inr (by rw[b]),by rw[e];exact f,U4 w _ 0 _ g,b,λj h=>?_⟩;rw[e] at h;have c:s.data.size=s.size:=rfl;unfold Lib.bytesCells;rw[RQ (by simp;omega)];simp[Lib.byteCells]
theorem yA{a:M}(h:Below B a w)(s:ByteArray)(b:B<=w.heap.size):Below B a (Lib.bytesWorld w 5 s) :=
 Lib.below_freeze (h.drew.alloc b _) (p:=(Q w.heap.size _ Y)) b _
theorem Gh{v:ZC}(h:MB w B v l):(convert 22 9 v).run Pg w=.ok (U ⟨l.toArray⟩) w:=by
 obtain⟨g,cap,cur,fz,rfl,_,f,_,_,_,_,i⟩:=h;refine OU _ 22 9 5 (Q g 0 Y) cap l MF ND IN ?_;intro j c;have h1:=i j c;have b:((Q g 0 Y):Addr).add j=(Q g j Y):=by unfold Addr.add;split<;>simp_all
 rw[b];simp only[World.cell?,f];simpa[Lib.byteCells,c] using h1
theorem yB{b:List ByteArray}{j:Nat}{X:ByteArray}(h:b[j]?=T X):dI (b.take (j+1))=dI (b.take j)++X.data.toList++[10]:=by rw[RC,h];exact gS _ _
theorem sN (b:List ByteArray)(j:Nat):(dI (b.take j)).length<=(dI b).length:=by
 have h:dI b=dI (b.take j)++dI (b.drop j):=by unfold dI;rw[<-BM,NZ]
 rw[h,cM];omega
theorem yC{L:Nat}(h:¬ (300000:Int)<(L:Int)):L<=300000:=by omega
theorem Hy{v:ZC}(h:MB w B v l):∃a cap,v=Z a l.length cap:=by obtain⟨g,cap,cur,fz,rfl,_⟩:=h;exact⟨_,_,rfl⟩
theorem fF (a:Option Addr)(n cap:Nat)(f:Nat->Deed)(w:M)(hn:(n:Int)<=1048576)(hv:SlDeed w a n f)(t:∀i,i<n->dk (f i))(bt:∀i,i<n->fD (f i)):Calls Pg 7 #[.agg #[Z a n cap]] w λe w'=>e=ZF (U ⟨(cL f n).toArray⟩)/\Below w.heap.size w w':=by
 have HV:=ae hv;have HM:=ae t;have HZ:=ae bt;clear hv t bt;have G:=ae ((q9 w).alloc ly (N #[Z a n cap] 25));have k0:(w.alloc (N #[Z a n cap] 25)).cell? (Q w.heap.size 0 Y)=T (Z a n cap):=by simp
 have hz:w.heap.size<(w.alloc (N #[Z a n cap] 25)).heap.size:=by simp
 obtain⟨ZL,hT⟩:∃ZL,ZL=cL f n:=⟨_,rfl⟩
 rw[<-hT];have K:=ae (show ZL=if dc f n=ZG then (if (aN f n n).length<=300000 then aN f n n else []) else [] from hT);clear hT;go_enter Tryz.func7,Tryz.ntmps7;go_wp2_with fail;generalize w.alloc (N #[Z a n cap] 25)=W at G k0 hz ⊢;refine(Dw a n cap f _ hn (HV.out.aa G.out ly) HM.out HZ.out).mono ?_;rintro e w1 ⟨rfl,ZN⟩;have s:=ae (G.out.trans (ZN.mono G.out.size));have k1:=(ZN.cell (p:=(Q w.heap.size 0 Y)) hz).trans k0;have aq:w.heap.size<w1.heap.size:=lj hz ZN.size;clear ZN G k0 hz;have HO:=ae (λh:dc f n=ZG=>(⟨fN h,h⟩:(1<=n/\n<=400/\aM (be f) n=-1)/\dc f n=ZG));obtain⟨r,hr⟩:∃r,r=dc f n:=⟨_,rfl⟩
 rw[<-hr] at K ⊢;have V:=ae hr;clear hr;cases r with
 |false =>
  obtain rfl:ZL=[]:=by have:=K.out;simpa using this
  go_wp2;go_ret;exact⟨rfl,s.out⟩
 |true =>
  have HF:=ae (show ZL=if (aN f n n).length<=300000 then aN f n n else [] by have:=K.out;simpa using this);obtain⟨⟨hn1,hn4,-⟩,m⟩:=HO.out V.out.symm;have ZO:=ae m;have Bk:=ae (rB m);clear K HO HM m V;obtain⟨b,off,rfl,D⟩:=HV.out.resolve_left (by omega);have HR:=ae (D.aa s.out ly);clear HV D;have hd:=gR n (by omega);have sm:¬ 9223372036854775807<8+(Lib.decDigits n).length:=by omega
  have qr:¬ 9223372036854775807<8+(Lib.decDigits n).length+1:=by omega
  go_wp2_with fail;refine(gy n (by omega) _).mono ?_;rintro e c ⟨rfl,S⟩;have ZQ:=ae S;clear S;have H:=Lib.run_convert_string_bytes (P:=Pg) c 9 22 5 ((⟨#[97,99,99,111,117,110,116,32]⟩:ByteArray)++⟨(Lib.decDigits n).toArray⟩++⟨#[10]⟩) (u:=TypeDesc.string) IN MF ND;have DS:((⟨#[97,99,99,111,117,110,116,32]⟩:ByteArray)++⟨(Lib.decDigits n).toArray⟩++⟨#[10]⟩).size<=40:=by simp only[MQ];have h1:(⟨#[97,99,99,111,117,110,116,32]⟩:ByteArray).size=8:=rfl;have h2:(⟨#[10]⟩:ByteArray).size=1:=rfl;have h3:(⟨(Lib.decDigits n).toArray⟩:ByteArray).size=(Lib.decDigits n).length:=(by simp[ByteArray.size]);omega
  have L:=ae (Gg c ((⟨#[97,99,99,111,117,110,116,32]⟩:ByteArray)++⟨(Lib.decDigits n).toArray⟩++⟨#[10]⟩) (by unfold maxLen;omega));have C0:=ae (yA (q9 c) ((⟨#[97,99,99,111,117,110,116,32]⟩:ByteArray)++⟨(Lib.decDigits n).toArray⟩++⟨#[10]⟩) ly);have ET:Hid (((⟨#[97,99,99,111,117,110,116,32]⟩:ByteArray)++⟨(Lib.decDigits n).toArray⟩++⟨#[10]⟩).data.toList=aN f n 0):=by show _=_;simp[aN]
  have k2:=(ZQ.out.cell (p:=(Q w.heap.size 0 Y)) aq).trans k1;have ZK:w.heap.size<c.heap.size:=lj aq ZQ.out.size;generalize Lib.bytesWorld c 5 ((⟨#[97,99,99,111,117,110,116,32]⟩:ByteArray)++⟨(Lib.decDigits n).toArray⟩++⟨#[10]⟩)=w3 at H L C0;generalize Value.slice (T (Q c.heap.size 0 Y)) ((⟨#[97,99,99,111,117,110,116,32]⟩:ByteArray)++⟨(Lib.decDigits n).toArray⟩++⟨#[10]⟩).size (grownCap c ((⟨#[97,99,99,111,117,110,116,32]⟩:ByteArray)++⟨(Lib.decDigits n).toArray⟩++⟨#[10]⟩).size 0 5)=v3 at H L;rw[ET.out] at L;clear ET DS;go_wp2;clear H sm qr;go_loopw [3,4] (λv i wr=>∃k:Nat,k<=n/\i=J I k/\Hid (MB wr c.heap.size v (aN f n k))/\Hid (Below c.heap.size c wr)) (λ_ i _=>n - (intOf i).toNat);case atStart=>exact⟨0,by omega,rfl,L.out,C0.out⟩
  case round =>
   obtain⟨k,hk,rfl,o,x⟩:=hrel;have th:=Bk.out k hk;have RW:=ae (ZQ.out.trans (x.out.mono ZQ.out.size));have k3:=(x.out.cell (p:=(Q w.heap.size 0 Y)) ZK).trans k2;have hz3:w.heap.size<wr.heap.size:=lj ZK x.out.size;by_cases E:k<n
   ·have hlt2:(k:Int)<n:=by omega
    obtain⟨o0,o1,o2,o3,⟨a0,ld,o4,q4⟩,⟨a1,n9,o5,q5⟩⟩:=(HR.out.aa RW.out ly).2 k E;have Q4:=ae (show SlIns wr a0 (f k).f (f k).G from q4);have Q5:=ae (show SlLink wr a1 (f k).b (f k).m from q5);clear q4 q5;go_wp2_with fail;refine(yz ZO.out E a0 ld a1 n9 _ Q4.out Q5.out).mono ?_;rintro e w5 ⟨v5,g,rfl,l⟩;obtain⟨O,cl,mv,rfl,hbl,la,dg⟩:=Ay l.i l.ne;have ur:=ae la;have DH:=ae dg;have ZJ:=ae l.eq;have hfew:=l.few;have B5:=ae (x.out.trans (l.ao.mono x.out.size));have O5:=ae (o.out.aa l.ao ly);have ro:=tD ZO.out k E;clear l la dg o0 o1 o2 o3 o4 o5 k3 o Q4 Q5;go_wp2;go_loopw [3,6] (λv i wr=>∃j:Nat,j<=g.length/\i=J I j/\Hid (MB wr c.heap.size v (aN f n k++dI (g.take j)))/\Hid (Below c.heap.size c wr)/\Hid (wr.heap[O]?=T (N mv 9))) (λ_ i _=>g.length - (intOf i).toNat);case atStart=>exact⟨0,by omega,rfl,by show MB _ _ _ _;simpa[dI] using O5.out,B5.out,ur.out⟩
    case round =>
     obtain⟨j,hj,rfl,q,ZP,z⟩:=hrel;have z6:c.heap.size<=wr.heap.size:=ZP.out.size;by_cases DE:j<g.length
     ·obtain⟨X,hX⟩:∃X,g[j]?=T X:=⟨g[j],by simp[DE]⟩
      have cj:wr.cell? (Q O j Y)=T (U X):=by have h1:=DH.out j X hX;simp only[World.cell?,z.out];exact h1
      have hgz:O<wr.heap.size:=(gM.1 z.out).1;have hlj2:(j:Int)<g.length:=by omega
      have C:=yB hX;have B:(dI (g.take (j+1))).length<=1300000:=p9 (sN g (j+1)) (by rw[ZJ.out];exact ro);have DQ:=ae C;have hlx:(dI (g.take j)).length+X.size+1<=1300000:=by rw[C] at B;simp only[cM,eT,nX] at B;have:=cE X;omega
      have hsl:=cE X;clear B C hX;go_wp2_with (at_builtin;refine Ax rfl (.tmp 36) (.tmp 40) rfl c.heap.size _ (aN f n k++dI (g.take j)) (by simp[Act.eval]) q.out X (by simp[Act.eval]) ?h3 z6 ?_);case h3=>simp only[cM];omega
      intro v7 y fd A;have M7:=ae fd;have B7:=ae (bg ZP.out A z6 (λj e=>(q.out.lt j e).1));have G7:=ae (tS q.out z.out A);have z7:c.heap.size<=y.heap.size:=B7.out.size;clear fd A cj;go_wp2_with (at_builtin;refine IZ rfl _ _ rfl c.heap.size _ (aN f n k++(dI (g.take j)++X.data.toList)) rfl ?h1 (Q y.heap.size 0 Y) 1 [10] rfl ?h2 ?h3 ?h4 ?_);case h1=>exact M7.out.aa (br.alloc ly _) ly
      case h2=>exact λj u hu=>ci y (J .u8 10) _ j u (by simpa[Lib.byteCells] using hu)
      case h3=>simp only[cM,eT,nX];omega
      case h4=>simp;omega
      intro v8 w8 R F;have M8:=ae R;have A7:=ae ((q9 y).alloc ly (N #[J .u8 10] 5));have B8:=ae (bg (B7.out.alloc z7 _) F (by simp;omega) (λj e=>(M7.out.lt j e).1));have G8:=ae (tS (M7.out.aa A7.out ly) ((A7.out.block O (gM.1 G7.out).1).trans G7.out) F);clear R F;go_wp2;exact⟨⟨j+1,by omega,by go_num,by show MB _ _ _ _;rw[DQ.out];simpa using M8.out,B8.out,G8.out⟩,by simp[intOf];omega⟩
     ·obtain rfl:j=g.length:=by omega
      go_wp2;exact⟨⟨k+1,by omega,by go_num,by show MB _ _ _ _;rw[aN,<-ZJ.out];simpa using q.out,ZP.out⟩,by simp[intOf];omega⟩
   ·obtain rfl:k=n:=by omega
    obtain⟨av,cv,rfl⟩:=Hy o.out;have At:=Gh o.out;generalize ZM:(aN f k k).length=L5 at th At ⊢;have ZI:=ae ZM;clear ZM;by_cases ph:(300000:Int)<(L5:Int)
    ·obtain rfl:ZL=[]:=by
      have h3:¬ (aN f k k).length<=300000:=by rw[ZI.out];omega
      rw[HF.out,nD h3]
     go_wp2;go_ret;exact⟨rfl,s.out.trans (RW.out.mono s.out.size)⟩
    ·obtain rfl:ZL=aN f k k:=by
      have h3:(aN f k k).length<=300000:=by rw[ZI.out];exact yC ph
      rw[HF.out,p7 h3]
     go_wp2;go_ret;exact⟨rfl,s.out.trans (RW.out.mono s.out.size)⟩
