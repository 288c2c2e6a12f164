import Derived.Test.YtpmnbjkjpnclaaaGreatDoorRO
import Derived.Deep.AppendSrc
import Derived.Deep.Upon
import Derived.Lib.ConvBytes
import Derived.Lib.BufferMore
set_option maxRecDepth 100000
set_option maxHeartbeats 4000000
open Go renaming Addr.mk->Q,Value.slice->Z,Value.string->Y,Value.int->J,Obj.cells->N,IntKind.i64->I,World->M,Value->ZC,Ending.returned->ZF,Proofs.Tryz.prog->Pg
open Option renaming none->U,some->T
open Bool renaming true->ZG
namespace Go.Proofs.YtpmnbjkjpnclaaaGreatDoor.Vp
open RowKit
variable {w:M}{B b:Nat}{l:List UInt8}{rest:List Oper}{o:Oper}{a:Act}{ZM:Exit->Act->M->Prop}
def MB (w:M)(c:Nat)(v:ZC)(l:List UInt8):Prop :=
 ∃g cap b fz,v=Z (T (Q g 0 U)) l.length cap/\c<=g/\w.heap[g]?=T (N b 5 fz)/\(fz=(0,0)∨fz=(cap,cap+1))/\l.length<=cap/\cap<=maxLen/\b.size=cap/\∀j:Nat,j<l.length->b[j]?=(Lib.byteCells l)[j]?
theorem MB.aa{c:M}{v:ZC}(h:MB w b v l)(hb:Below B w c)(i:w.heap.size<=B):MB c b v l:=by obtain⟨g,cap,f,fz,h1,h2,h3,r⟩:=h;exact⟨g,cap,f,fz,h1,h2,by rw[hb.block g (lj (eT.1 h3).1 i)];exact h3,r⟩
theorem MB.lt{v:ZC}(h:MB w b v l):∀k,v.ownBlock=T k->b<=k/\k<w.heap.size:=by obtain⟨g,cap,cur,fz,rfl,h2,h3,r⟩:=h;intro k c;simp[Value.ownBlock] at c;subst c;exact⟨h2,(eT.1 h3).1⟩
theorem setCells_at (g:Nat)(t:TypeId)(fz:Nat × Nat):∀(h:List ZC) (o:Nat) (c:Array ZC) (w:M),w.heap[g]?=T (N c t fz)->o+h.length<=c.size ->
  ∃b,(w.setCells g o h).heap[g]?=T (N b t fz)/\b.size=c.size/\(∀j,j<o->b[j]?=c[j]?)/\∀j,j<h.length->b[o+j]?=h[j]?
 |[],o,c,w,hg,_=>⟨c,hg,rfl,λ_ _=>rfl,λj f=>absurd f (PK _)⟩
 |v::r,o,c,w,hg,hl=>by
  simp only[eL] at hl;obtain⟨b,h1,h2,h3,h4⟩:=setCells_at g t fz r (o+1) (c.setIfInBounds o v) (w.setCell (Q g o U) v) (Lib.heap_setCell_same hg v) (by simp;omega);refine⟨b,h1,by simpa using h2,λj f=>?_,λj f=>?_⟩
  ·rw[h3 j (by omega)]
   simp[Array.getElem?_setIfInBounds];omega
  ·cases j with
   |zero =>rw[PT,h3 o (by omega)];simp[Array.getElem?_setIfInBounds];omega
   |succ j =>simp only[eL] at f;have:=h4 j (by omega);rw[show o+(j+1)=o+1+j by omega,this];simp
theorem mK (g:Nat):∀(b:List ZC) (o:Nat) (w:M),(w.setCells g o b).os=w.os/\(w.setCells g o b).tape=w.tape/\(w.setCells g o b).output=w.output/\(w.setCells g o b).heap.size=w.heap.size
 |[],_,_=>⟨rfl,rfl,rfl,rfl⟩
 |v::r,o,w=>by obtain⟨h1,h2,h3,h4⟩:=mK g r (o+1) (w.setCell (Q g o U) v);exact⟨h1,h2,h3,by rw[show(w.setCells g o (v::r)).heap.size=((w.setCell (Q g o U) v).setCells g (o+1) r).heap.size from rfl,h4];simp⟩
theorem BH (w:M)(m:Nat)(ty tx:TypeId)(v:ZC)(l:List UInt8)(h:MB w m v l)(x:ZC)(b:List UInt8)(L:Src Pg 1 tx x b.length (Lib.byteCells b) w)(hb:l.length+b.length<=140737488355328)(z:m<=w.heap.size):∃ZO C,(Builtin.append_ #[22,tx] ty #[v,x]).run Pg w=.ok ZO C/\MB C m ZO (l++b)/\w.grownBy C v.ownBlock:=by
 obtain⟨i,hi,K,c,R⟩:=L8 yR;obtain⟨g,cap,s,fz,rfl,S,q,A,hlc,O,hcs,f⟩:=h;have p:=OR l;have E:=OR b;have r:Lib.byteCells (l++b)=Lib.byteCells l++Lib.byteCells b:=by simp[Lib.byteCells]
 by_cases o:l.length+b.length<=cap
 ·have ZK:∀j,j<(Lib.byteCells b).length->(w.cell? (Q g (0+l.length*i.size+j) U)).isSome=ZG:=by
   intro j n;rw[c];have:l.length+j<s.size:=by omega
   simp[World.cell?,q,this]
  have V:∀j,j<(Lib.byteCells b).length->w.frozen? (Q g (0+l.length*i.size+j) U)=false:=by
   intro j n;rw[c];rcases A with rfl|rfl;{simp[World.frozen?,q]};{simp[World.frozen?,q];omega}
  have y:=run_append_room_src (P:=Pg) w 22 tx ty 5 i IS hi g 0 l.length cap x b.length (Lib.byteCells b) (by rw[c];exact L) o ZK V;have X:0+l.length*i.size=l.length:=by rw[c];omega
  rw[X] at y;obtain⟨D,W,k2,k3,ZJ⟩:=setCells_at g 5 fz (Lib.byteCells b) l.length s w q (by omega);obtain⟨r1,r2,ZI,r4⟩:=mK g (Lib.byteCells b) l.length w;refine⟨_,_,y,⟨g,cap,D,fz,by rw[cM],S,W,A,by rw[cM];exact o,O,by omega,λj n=>?_⟩,⟨r1,r2,ZI,by omega,λk G ZM=>World.heap_setCells_other w g l.length (Lib.byteCells b) G (λe=>ZM (by simp[Value.ownBlock,e]))⟩⟩;rw[r];rw[cM] at n;by_cases B:j<l.length;{rw[k3 j B,f j B,N9 (by omega)]};{have:=ZJ (j - l.length) (by omega);rw[show l.length+(j - l.length)=j by omega] at this;rw[this,IX (by omega),p]}
 ·have t:∀j u,(Lib.byteCells l)[j]?=T u->w.drew.cell? (((Q g 0 U):Addr).add j)=T u:=by
   intro j u ZP;have n:j<l.length:=by
    rcases PJ j l.length with ZN|ZN;{exact ZN};{rw[OH (by omega)] at ZP;cases ZP}
   have h1:=f j n;rw[ZP] at h1;have ZL:w.drew.heap[g]?=T (N s 5 fz):=q;have H:((Q g 0 U):Addr).add j=(Q g j U):=by unfold Addr.add;split<;>simp_all
   rw[H];simp only[World.cell?,ZL];exact h1
  have F:=run_firstCells_some (P:=Pg) w.drew i.size l.length (Q g 0 U) l.length cap (Lib.byteCells l) (by rw[c,p];omega) t;have hm:l.length+b.length<=maxLen:=by unfold maxLen;omega
  have y:=run_append_grow_src (P:=Pg) w 22 tx ty 5 i (J .u8 0) IS hi K (T (Q g 0 U)) l.length cap (Lib.byteCells l) F x b.length (Lib.byteCells b) (by rw[c];exact L) (by omega) (by omega) (by rw[R];exact growslice_fits (by omega) (by omega));refine⟨_,_,y,⟨w.heap.size,_,_,(0,0),by rw[cM],z,nL w.drew _,.inl rfl,by rw[cM];exact grownCap_ge w _ cap _,WT w _ cap _ hm,?_,λj n=>?_⟩,⟨rfl,rfl,rfl,by simp,λk G _=>XH w.drew _ k G⟩⟩;{have ZQ:(Value.int IntKind.u8 0).cells.size=1:=rfl;have hge:=grownCap_ge w (l.length+b.length) cap 5;simp only[Array.size_append,CV,cM,size_zeroCells,ZQ,p,E];omega};{rw[r];rw[cM] at n;rw[T0 (by simp;omega)];simp}
theorem BJ{i:Array Oper}(n:o.guard=U)(sl x:Operand)
  (r:o.op=.call { callee:=.builtin .append,args:=#[sl,x],argTypes:=#[22,9] }) (b:Nat) (v:ZC) (l:List UInt8) (t:a.eval sl=v) (j:MB w b v l)
  (s:ByteArray) (q:a.eval x=Y s) (hb:l.length+s.size<=140737488355328) (g:b<=w.heap.size)
  (h:∀f c,MB c b f (l++s.data.toList)->w.grownBy c v.ownBlock->wpList Pg i ZM rest (a.put o.dst f) c):wpList Pg i ZM (o::rest) a w:=by
 refine wpList_plain n λK u=>?_;have m:Src Pg 1 9 (Y s) s.data.toList.length (Lib.byteCells s.data.toList) w:=by
  have h1:=Src.ofString (P:=Pg) w (tx:=9) F3 s;have e:s.data.toList.length=s.size:=by simp
  rw[e];exact h1
 obtain⟨f,c,p,h2,h3⟩:=BH w b o.type 9 v l j (Y s) s.data.toList m (by have e:s.data.toList.length=s.size:=(by simp);omega) g;unfold Oper.wp execOp;simp only[r,resolve,invoke,builtin,WF,WG,SU,UB,PM,PQ,t,q,p];exact u _ _ (h f c h2 h3)
theorem J4{q:Array Oper}(t:o.guard=U)(sl x:Operand)
  (A:o.op=.call { callee:=.builtin .append,args:=#[sl,x],argTypes:=#[22,22] }) (f:Nat) (v:ZC) (l:List UInt8) (B:a.eval sl=v) (r:MB w f v l)
  (m:Addr) (c:Nat) (b:List UInt8) (z:a.eval x=Z (T m) b.length c) (i:∀j u,(Lib.byteCells b)[j]?=T u->w.cell? (m.add j)=T u) (hb:l.length+b.length<=140737488355328) (p:f<=w.heap.size)
  (h:∀n g,MB g f n (l++b)->w.grownBy g v.ownBlock->wpList Pg q ZM rest (a.put o.dst n) g):wpList Pg q ZM (o::rest) a w:=by
 refine wpList_plain t λK C=>?_;have s:Src Pg 1 22 (Z (T m) b.length c) b.length (Lib.byteCells b) w:=Src.ofSlice (P:=Pg) w IS m b.length c (Lib.byteCells b) (by rw[OR];omega) i (by simp[Lib.byteCells,Value.oneCell']);obtain⟨n,g,y,h2,h3⟩:=BH w f o.type 22 v l r (Z (T m) b.length c) b s hb p;unfold Oper.wp execOp;simp only[A,resolve,invoke,builtin,WF,WG,SU,UB,PM,PQ,B,z,y];exact C _ _ (h n g h2 h3)
theorem zx{f:Nat->Deed}{n p:Nat}(h:de f n=ZG)(q:p<n)(a0:Option Addr)(c:Nat)(a1:Option Addr)(b:Nat)(w:M)(l:SlIns w a0 (f p).f (f p).H)(hL:SlLink w a1 (f p).b (f p).D):Calls Pg 136 #[.agg #[Y (f p).e,J I (f p).m,J I (f p).E,Y (f p).B,Z a0 (f p).f c,Z a1 (f p).b b]] w λe i=>∃v m,e=ZF v/\tV w i (f p) v m:=by
 obtain⟨h1,h2,h3⟩:=lU h p q;have hn:=fS h;rcases h3 with h3|h3|⟨g,c1,c2,c3,c4,c5,r⟩
 {exact yZ (f p) a0 c a1 b w h1 h2 h3};{exact wQ (f p) a0 c a1 b w h1 h3};{refine zc (f p) a0 c a1 b w l hL h1 h2 c1 c2 c3 c4 c5 (λk g=>?_) g;obtain⟨j,o,q3⟩:=iS (fR r k g);exact⟨j,o,by omega⟩}
theorem BK{v:ZC}{c:List ByteArray}(h:w.ownsRow B 9 1 v c.length (ft c))(m:c≠[]):∃g cap b,v=Z (T (Q g 0 U)) c.length cap/\B<=g/\w.heap[g]?=T (N b 9)/\∀(j:Nat) (x:ByteArray),c[j]?=T x->b[j]?=T (Value.string x):=by
 rcases h.2 with ⟨_,hz⟩|⟨g,cap,b,o,n,p,hnc,hcm,hcs,f⟩
 {exact absurd (by simpa using hz) m}
 ·refine⟨g,cap,b,o,n,p,λj x i=>?_⟩;have hj:j<c.length:=by
   rcases PJ j c.length with l|l;{exact l};{rw[OH l] at i;cases i}
  have h1:(b.toList.take (c.length*1))[j]?=T (Y x):=by rw[f];simp[ft,i]
  rw[WU] at h1;rw[p6 (by omega)] at h1;simpa using h1
theorem uF{h:M}{g:Nat}{v:ZC}{c:Array ZC}(m:MB w B v l)(f:w.heap[g]?=T (N c 9))(j:w.grownBy h v.ownBlock):h.heap[g]?=T (N c 9):=by
 have i:g<w.heap.size:=(eT.1 f).1;rw[j.block g i ?_];{exact f};{intro e;obtain⟨g',cap,c',fz,rfl,_,b,_⟩:=m;simp[Value.ownBlock] at e;subst e;rw[f] at b;injection b with h1;injection h1 with _ h2;exact absurd h2 (by decide)}
theorem Hj (w:M)(s:ByteArray)(h:s.size<=maxLen):MB (Lib.bytesWorld w 5 s) w.heap.size (Z (T (Q w.heap.size 0 U)) s.size (grownCap w s.size 0 5)) s.data.toList:=by
 have e:s.data.toList.length=s.size:=by simp
 have c:=grownCap_ge w s.size 0 5;have b:(Lib.bytesCells w 5 s).size=grownCap w s.size 0 5:=by have f:s.data.size=s.size:=rfl;simp[Lib.bytesCells,f];omega
 refine⟨w.heap.size,grownCap w s.size 0 5,Lib.bytesCells w 5 s,_,by rw[e],n6 _,Lib.bytesWorld_at_new w _ s,.inr (by rw[b]),by rw[e];exact c,WT w _ 0 _ h,b,λj g=>?_⟩;rw[e] at g;have f:s.data.size=s.size:=rfl;unfold Lib.bytesCells;rw[T0 (by simp;omega)];simp[Lib.byteCells]
theorem zy{a:M}(h:Below B a w)(s:ByteArray)(b:B<=w.heap.size):Below B a (Lib.bytesWorld w 5 s) :=
 Lib.below_freeze (h.drew.alloc b _) (p:=(Q w.heap.size _ U)) b _
theorem Hk{v:ZC}(h:MB w B v l):(convert 22 9 v).run Pg w=.ok (Y ⟨l.toArray⟩) w:=by
 obtain⟨g,cap,cur,fz,rfl,_,f,_,_,_,_,i⟩:=h;refine PR _ 22 9 5 (Q g 0 U) cap l IS L3 F3 ?_;intro j c;have h1:=i j c;have b:((Q g 0 U):Addr).add j=(Q g j U):=by unfold Addr.add;split<;>simp_all
 rw[b];simp only[World.cell?,f];simpa[Lib.byteCells,c] using h1
theorem zB{b:List ByteArray}{j:Nat}{X:ByteArray}(h:b[j]?=T X):dJ (b.take (j+1))=dJ (b.take j)++X.data.toList++[10]:=by rw[TV,h];exact gV _ _
theorem tG (b:List ByteArray)(j:Nat):(dJ (b.take j)).length<=(dJ b).length:=by
 have h:dJ b=dJ (b.take j)++dJ (b.drop j):=by unfold dJ;rw[<-BO,PI]
 rw[h,cM];omega
theorem zC{L:Nat}(h:¬ (300000:Int)<(L:Int)):L<=300000:=by omega
theorem Jc{v:ZC}(h:MB w B v l):∃a cap,v=Z a l.length cap:=by obtain⟨g,cap,cur,fz,rfl,_⟩:=h;exact⟨_,_,rfl⟩
theorem ig (a:Option Addr)(n cap:Nat)(f:Nat->Deed)(w:M)(hn:(n:Int)<=1048576)(hv:SlDeed w a n f)(F:∀i,i<n->cV (f i))(R:∀i,i<n->fj (f i)):Calls Pg 76 #[.agg #[Z a n cap]] w λe w'=>e=ZF (Y ⟨(bF f n).toArray⟩)/\Below w.heap.size w w':=by
 have HV:=ae hv;have HM:=ae F;have HZ:=ae R;clear hv F R;have ZP:=ae ((q9 w).alloc ly (N #[Z a n cap] 37));have k0:(w.alloc (N #[Z a n cap] 37)).cell? (Q w.heap.size 0 U)=T (Z a n cap):=by simp
 have hz:w.heap.size<(w.alloc (N #[Z a n cap] 37)).heap.size:=by simp
 obtain⟨ZL,hT⟩:∃ZL,ZL=bF f n:=⟨_,rfl⟩
 rw[<-hT];have ZQ:=ae (show ZL=if de f n=ZG then (if (aN f n n).length<=300000 then aN f n n else []) else [] from hT);clear hT;go_enter Tryz.func76,Tryz.ntmps76;go_wp2_with fail;generalize w.alloc (N #[Z a n cap] 37)=W at ZP k0 hz ⊢;refine(ED a n cap f _ hn (HV.aa ZP ly) HM HZ).mono ?_;rintro e w1 ⟨rfl,O⟩;have s:=ae (ZP.trans (O.mono ZP.size));have k1:=(O.cell (p:=(Q w.heap.size 0 U)) hz).trans k0;have dg:w.heap.size<w1.heap.size:=lj hz O.size;clear O ZP k0 hz;have HO:=ae (λh:de f n=ZG=>(⟨fS h,h⟩:(1<=n/\n<=400/\aM (bi f) n=-1)/\de f n=ZG));obtain⟨r,hr⟩:∃r,r=de f n:=⟨_,rfl⟩
 rw[<-hr] at ZQ ⊢;have S:=ae hr;clear hr;cases r with
 |false =>
  obtain rfl:ZL=[]:=by have:=ZQ.out;simpa using this
  go_wp2;go_ret;exact⟨rfl,s⟩
 |true =>
  have HF:=ae (show ZL=if (aN f n n).length<=300000 then aN f n n else [] by have:=ZQ.out;simpa using this);obtain⟨⟨hn1,hn4,-⟩,m⟩:=HO.out S.symm;have ZN:=ae m;have Bk:=ae (se m);clear ZQ HO HM m S;obtain⟨b,off,rfl,x⟩:=HV.resolve_left (by omega);have HR:=ae (x.aa s ly);clear HV x;have hd:=gU n (by omega);have DS:¬ 9223372036854775807<8+(Lib.decDigits n).length:=by omega
  have DH:¬ 9223372036854775807<8+(Lib.decDigits n).length+1:=by omega
  go_wp2_with fail;refine(gC n (by omega) _).mono ?_;rintro e c ⟨rfl,bt⟩;have K:=ae bt;clear bt;have E:=Lib.run_convert_string_bytes (P:=Pg) c 9 22 5 ((⟨#[97,99,99,111,117,110,116,32]⟩:ByteArray)++⟨(Lib.decDigits n).toArray⟩++⟨#[10]⟩) (u:=TypeDesc.string) F3 IS L3;have ur:((⟨#[97,99,99,111,117,110,116,32]⟩:ByteArray)++⟨(Lib.decDigits n).toArray⟩++⟨#[10]⟩).size<=40:=by simp only[IH];have h1:(⟨#[97,99,99,111,117,110,116,32]⟩:ByteArray).size=8:=rfl;have h2:(⟨#[10]⟩:ByteArray).size=1:=rfl;have h3:(⟨(Lib.decDigits n).toArray⟩:ByteArray).size=(Lib.decDigits n).length:=(by simp[ByteArray.size]);omega
  have ZO:=ae (Hj c ((⟨#[97,99,99,111,117,110,116,32]⟩:ByteArray)++⟨(Lib.decDigits n).toArray⟩++⟨#[10]⟩) (by unfold maxLen;omega));have C0:=ae (zy (q9 c) ((⟨#[97,99,99,111,117,110,116,32]⟩:ByteArray)++⟨(Lib.decDigits n).toArray⟩++⟨#[10]⟩) ly);have ET:Hid (((⟨#[97,99,99,111,117,110,116,32]⟩:ByteArray)++⟨(Lib.decDigits n).toArray⟩++⟨#[10]⟩).data.toList=aN f n 0):=by show _=_;simp[aN]
  have k2:=(K.cell (p:=(Q w.heap.size 0 U)) dg).trans k1;have la:w.heap.size<c.heap.size:=lj dg K.size;generalize Lib.bytesWorld c 5 ((⟨#[97,99,99,111,117,110,116,32]⟩:ByteArray)++⟨(Lib.decDigits n).toArray⟩++⟨#[10]⟩)=w3 at E ZO C0;generalize Value.slice (T (Q c.heap.size 0 U)) ((⟨#[97,99,99,111,117,110,116,32]⟩:ByteArray)++⟨(Lib.decDigits n).toArray⟩++⟨#[10]⟩).size (grownCap c ((⟨#[97,99,99,111,117,110,116,32]⟩:ByteArray)++⟨(Lib.decDigits n).toArray⟩++⟨#[10]⟩).size 0 5)=v3 at E ZO;rw[ET.out] at ZO;clear ET ur;go_wp2;clear E DS DH;go_loopw [3,4] (λv i wr=>∃k:Nat,k<=n/\i=J I k/\Hid (MB wr c.heap.size v (aN f n k))/\Hid (Below c.heap.size c wr)) (λ_ i _=>n - (intOf i).toNat);case atStart=>exact⟨0,by omega,rfl,ZO,C0⟩
  case round =>
   obtain⟨k,hk,rfl,q,D⟩:=hrel;have DQ:=Bk.out k hk;have RW:=ae (K.trans (D.mono K.size));have k3:=(D.cell (p:=(Q w.heap.size 0 U)) la).trans k2;have hz3:w.heap.size<wr.heap.size:=lj la D.size;by_cases G:k<n
   ·have hlt2:(k:Int)<n:=by omega
    obtain⟨o0,o1,o2,o3,⟨a0,ph,o4,q4⟩,⟨a1,ld,o5,q5⟩⟩:=(HR.aa RW ly).2 k G;have Q4:=ae (show SlIns wr a0 (f k).f (f k).H from q4);have Q5:=ae (show SlLink wr a1 (f k).b (f k).D from q5);clear q4 q5;go_wp2_with fail;refine(zx ZN G a0 ph a1 ld _ Q4 Q5).mono ?_;rintro e w5 ⟨v5,g,rfl,l⟩;obtain⟨L,cl,n9,rfl,hbl,V,ZK⟩:=BK l.i l.ne;have ro:=ae V;have sm:=ae ZK;have fd:=ae l.eq;have hfew:=l.few;have B5:=ae (D.trans (l.ao.mono D.size));have O5:=ae (q.aa l.ao ly);have qr:=us ZN.out k G;clear l V ZK o0 o1 o2 o3 o4 o5 k3 q Q4 Q5;go_wp2;go_loopw [3,6] (λv i wr=>∃j:Nat,j<=g.length/\i=J I j/\Hid (MB wr c.heap.size v (aN f n k++dJ (g.take j)))/\Hid (Below c.heap.size c wr)/\Hid (wr.heap[L]?=T (N n9 9))) (λ_ i _=>g.length - (intOf i).toNat);case atStart=>exact⟨0,by omega,rfl,by show MB _ _ _ _;simpa[dJ] using O5.out,B5,ro⟩
    case round =>
     obtain⟨j,hj,rfl,o,B,z⟩:=hrel;have z6:c.heap.size<=wr.heap.size:=B.size;by_cases DE:j<g.length
     ·obtain⟨X,hX⟩:∃X,g[j]?=T X:=⟨g[j],by simp[DE]⟩
      have cj:wr.cell? (Q L j U)=T (Y X):=by have h1:=sm.out j X hX;simp only[World.cell?,z.out];exact h1
      have hgz:L<wr.heap.size:=(eT.1 z).1;have hlj2:(j:Int)<g.length:=by omega
      have t:=zB hX;have y:(dJ (g.take (j+1))).length<=1300000:=p7 (tG g (j+1)) (by rw[fd.out];exact qr);have th:=ae t;have hlx:(dJ (g.take j)).length+X.size+1<=1300000:=by rw[t] at y;simp only[cM,eL,nX] at y;have:=cF X;omega
      have hsl:=cF X;clear y t hX;go_wp2_with (at_builtin;refine BJ rfl (.tmp 36) (.tmp 40) rfl c.heap.size _ (aN f n k++dJ (g.take j)) (by simp[Act.eval]) o.out X (by simp[Act.eval]) ?h3 z6 ?_);case h3=>simp only[cM];omega
      intro v7 H ZJ C;have M7:=ae ZJ;have B7:=ae (bg B C z6 (λj e=>(o.lt j e).1));have G7:=ae (uF o z C);have z7:c.heap.size<=H.heap.size:=B7.size;clear ZJ C cj;go_wp2_with (at_builtin;refine J4 rfl _ _ rfl c.heap.size _ (aN f n k++(dJ (g.take j)++X.data.toList)) rfl ?h1 (Q H.heap.size 0 U) 1 [10] rfl ?h2 ?h3 ?h4 ?_);case h1=>exact M7.aa (br.alloc ly _) ly
      case h2=>exact λj u hu=>cu H (J .u8 10) _ j u (by simpa[Lib.byteCells] using hu)
      case h3=>simp only[cM,eL,nX];omega
      case h4=>simp;omega
      intro v8 w8 aq A;have M8:=ae aq;have A7:=ae ((q9 H).alloc ly (N #[J .u8 10] 5));have B8:=ae (bg (B7.alloc z7 _) A (by simp;omega) (λj e=>(M7.lt j e).1));have G8:=ae (uF (M7.aa A7 ly) ((A7.block L (eT.1 G7).1).trans G7) A);clear aq A;go_wp2;exact⟨⟨j+1,by omega,by go_num,by show MB _ _ _ _;rw[th.out];simpa using M8.out,B8,G8⟩,by simp[intOf];omega⟩
     ·obtain rfl:j=g.length:=by omega
      go_wp2;exact⟨⟨k+1,by omega,by go_num,by show MB _ _ _ _;rw[aN,<-fd.out];simpa using o.out,B⟩,by simp[intOf];omega⟩
   ·obtain rfl:k=n:=by omega
    obtain⟨av,cv,rfl⟩:=Jc q;have At:=Hk q.out;generalize ZI:(aN f k k).length=L5 at DQ At ⊢;have ZM:=ae ZI;clear ZI;by_cases mv:(300000:Int)<(L5:Int)
    ·obtain rfl:ZL=[]:=by
      have h3:¬ (aN f k k).length<=300000:=by rw[ZM.out];omega
      rw[HF.out,gM h3]
     go_wp2;go_ret;exact⟨rfl,s.trans (RW.mono s.size)⟩
    ·obtain rfl:ZL=aN f k k:=by
      have h3:(aN f k k).length<=300000:=by rw[ZM.out];exact zC mv
      rw[HF.out,p6 h3]
     go_wp2;go_ret;exact⟨rfl,s.trans (RW.mono s.size)⟩
