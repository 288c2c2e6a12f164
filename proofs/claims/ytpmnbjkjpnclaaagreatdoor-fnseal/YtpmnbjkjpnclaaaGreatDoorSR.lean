import Derived.Lib.AppendStr
import Derived.Deep.RegionLaw
import Derived.Test.YtpmnbjkjpnclaaaGreatDoorSD
import Derived.Lib.ItoaNum
import Derived.Lib.ItoaLen
import Derived.Lib.ItoaMem
import Derived.Lib.SmallJoins
set_option maxRecDepth 100000
set_option maxHeartbeats 2000000
open Go renaming Addr.mk->Q,Value.slice->Z,Value.string->Y,Value.int->J,IntKind.i64->I,World->M,Value->ZC,Ending.returned->ZF,World.heap->A,Proofs.Tryz.prog->Pg
open Option renaming none->U,some->T
open Bool renaming false->ZA,true->ZG
open Array renaming size->N
namespace Go.Proofs.YtpmnbjkjpnclaaaGreatDoor.Vp
open Tryz RowKit
variable {w:M}{base n g:Nat}{l:List UInt8}{o:Oper}{a:Act}{ZM:Exit->Act->M->Prop}{c:UInt8}{p:Array Oper}{rest:List Oper}
def Cells (w:M)(b off m:Nat)(F:Nat->ZC):Prop:=b<N (A w)/\∀j,j<m->w.cell? (Q b (off+j) U)=T (F j)/\w.frozen? (Q b (off+j) U)=ZA
structure Touch (P:Nat->Prop)(w w':M):Prop where
 os:w'.os=w.os
 tape:w'.tape=w.tape
 output:w'.output=w.output
 size:N (A w)<=N (A w')
 block:∀k,k<N (A w)->¬ P k->w'.heap[k]?=w.heap[k]?
theorem oP (x:Int)(b:UInt8)(h:x=b.toNat)(w:M)(g:Nat)(c:w.cell? (Q g 0 U)=T (J .u8 x)):(convert 22 9 (Z (T (Q g 0 U)) 1 1)).run Pg w=.ok (Y ⟨#[b]⟩) w:=by
 refine PR _ 22 9 5 (Q g 0 U) 1 [b] IS L3 F3 ?_;intro j f;obtain rfl:j=0:=by simpa using f
 simp[Addr.add,c,h]
def dig (n:Nat):UInt8:=UInt8.ofNat (48+n)
theorem digit (n:Nat)(h:n<10):(48+(n:Int))=(dig n).toNat:=by unfold dig;rw[NY];omega
theorem bV (h:¬ n<10):Lib.decDigits n=Lib.decDigits (n / 10)++[dig (n % 10)]:=by rw[Lib.decDigits,dif_neg h];rfl
theorem iQ (n:Nat)(h:n<10)(w:M):Calls Pg 104 #[J I n] w λe b=>e=ZF (Y ⟨#[dig n]⟩)/\Below (N (A w)) w b:=by have hcv:=oP (48+(n:Int)) _ (digit n h);go_enter func104,ntmps104;go_wp2;go_ret;exact⟨rfl,br.alloc ly _⟩
theorem gC (n:Nat):n<=9223372036854775807->∀w:M,
  Calls Pg 104 #[J I n] w λe f=>e=ZF (Y ⟨(Lib.decDigits n).toArray⟩)/\Below (N (A w)) w f:=by
 induction n using Nat.strongRecOn with
 |ind n g =>
  intro hn w;by_cases h:n<10;{rw[Lib.decDigits_one h];exact iQ n h w}
  ·have c:∀w:M,Calls Pg 104 #[J I ((n:Int) / 10)] w λe f=>e=ZF (Y ⟨(Lib.decDigits (n / 10)).toArray⟩)/\Below (N (A w)) w f:=λw=>g (n / 10) (by omega) (by omega) w;have i:=ae c;clear g c;have hcv:=oP (48+(n:Int) % 10) (dig (n % 10)) (by have:=digit (n % 10) (by omega);omega);have q1:IntKind.i64.wrap ((n:Int) / 10)=(n:Int) / 10:=by rw[p9];omega
   have q2:IntKind.i64.wrap ((n:Int) % 10)=(n:Int) % 10:=by rw[p9];omega
   have q3:IntKind.i64.wrap (48+(n:Int) % 10)=48+(n:Int) % 10:=by rw[p9];omega
   have q5:(n:Int).tmod 10=(n:Int) % 10:=QN (by omega);have hl:(Lib.decDigits (n / 10)).length<=21:=by rw[<-Lib.itoa_nonneg];exact Lib.itoa_length_le _ (by omega) (by omega)
   have q4:IntKind.u8.wrap (48+(n:Int) % 10)=48+(n:Int) % 10:=by rw[TG];omega
   go_enter func104,ntmps104;go_wp2_with fail;go_region_with (go_at_call 104;refine(i _).mono ?_;rintro e w1 ⟨rfl,b⟩;have hc1:=(JV b).1);all_goals
    go_wp2;go_ret;refine⟨fO ?_,?_⟩
    ·rw[bV h]
     apply N5;simp
    ·first
      |exact(br.drew.trans b).alloc b.size _
      |exact((br.alloc ly _).drew).trans (b.mono (by simp))
def cO (k:Nat):UInt8:=([48,49,50,51,52,53,54,55,56,57,97,98,99,100,101,102]:List UInt8).getD k 0
def dU (c:UInt8):List UInt8:=[cO (c.toNat / 16),cO (c.toNat % 16)]
def cf (c:UInt8):Bool:=decide (32<=c.toNat/\c.toNat<=126/\c.toNat≠34/\c.toNat≠92)
def enc (c:UInt8):List UInt8:=if cf c=ZG then [c] else 92::dU c
def qTo (l:List UInt8)(k:Nat):List UInt8:=34::(l.take k).flatMap enc
def aF (l:List UInt8):List UInt8:=qTo l l.length++[34]
theorem uh (s:ByteArray)(k:Nat)(h:k<s.size):qTo s.data.toList (k+1)=qTo s.data.toList k++enc s[k]:=by unfold qTo;rw[QO (by simpa using h)];simp;rfl
theorem IY (c:UInt8):(enc c).length<=3:=by unfold enc;split<;>simp[dU]
theorem GJ (l:List UInt8):(l.flatMap enc).length<=3*l.length:=by
 induction l with
 |nil=>simp
 |cons c r ih=>have:=IY c;simp only[J2,cM,eL];omega
theorem ui (l:List UInt8)(k:Nat):(qTo l k).length<=1+3*k:=by have h1:=GJ (l.take k);have h2:=List.length_take_le k l;simp only[qTo,eL];omega
theorem IZ (l:List UInt8)(k:Nat):qTo l k≠[]:=by simp[qTo]
theorem ep (l:List UInt8):(aF l).length<=2+3*l.length:=by have:=ui l l.length;simp only[aF,cM,eL,nX];omega
def aR (op:Int)(s:List UInt8)(n:Int):List UInt8 :=
 if kind op=1 then word op++(32::aF s) else if kind op=0 then word op else word op++(32::Lib.decDigits n.toNat)
theorem nN (n:Nat)(h:n<=2000):(Lib.decDigits n).length<=21:=by rw[<-Lib.itoa_nonneg];exact Lib.itoa_length_le _ (by omega) (by omega)
theorem iR{op:Int}{s:ByteArray}{n:Int}(h:aH op s.size n=ZG):(op=1/\s.size<=2000/\n=0)∨((op=3∨op=4∨op=5∨op=10∨op=11)/\s=⟨#[]⟩/\∃m:Nat,n=m/\m<=2000) ∨
  ((op=2∨op=6∨op=7∨op=8∨op=9∨op=12∨op=13∨op=14∨op=15)/\s=⟨#[]⟩/\n=0):=by
 unfold aH at h;rw[AI] at h;obtain⟨h1,h2,h3,h4,b⟩:=h;by_cases f:op=1;{subst f;simp[aE,bO] at h3 b;exact .inl ⟨rfl,by omega,by omega⟩}
 ·have c:s.size=0:=by simp only[aE,gM f] at h3;omega
  by_cases g:op=3∨op=4∨op=5∨op=10∨op=11;{obtain⟨m,rfl⟩:=AS h4;refine .inr (.inl ⟨g,ji c,m,rfl,?_⟩);unfold bO at b;split at b;{omega};{split at b<;>omega}};{refine .inr (.inr ⟨by omega,ji c,?_⟩);unfold bO at b;rw[gM (by omega),gM (by omega)] at b;omega}
theorem uj (op:Int)(s:ByteArray)(n:Int)(h:aH op s.size n=ZG):(aR op s.data.toList n).length<=6010:=by
 rcases iR h with ⟨rfl,hs,rfl⟩|⟨b,rfl,m,rfl,f⟩|⟨b,rfl,rfl⟩
 ·have c:=ep s.data.toList;have hl:s.data.toList.length=s.size:=by simp
  simp[aR,kind,word];omega
 {have c:=nN m f;rcases b with rfl|rfl|rfl|rfl|rfl<;>simp[aR,kind,word]<;>omega};{rcases b with rfl|rfl|rfl|rfl|rfl|rfl|rfl|rfl|rfl<;>simp[aR,kind,word]}
theorem yQ (x y z:Int)(a b c:UInt8)(l:x=a.toNat)(i:y=b.toNat)(hz:z=c.toNat)(w:M)(g:Nat)(m:w.cell? (Q g 0 U)=T (J .u8 x))(h1:w.cell? (Q g 1 U)=T (J .u8 y))(h2:w.cell? (Q g 2 U)=T (J .u8 z)):(convert 22 9 (Z (T (Q g 0 U)) 3 3)).run Pg w=.ok (Y ⟨#[a,b,c]⟩) w:=by
 refine PR _ 22 9 5 (Q g 0 U) 3 [a,b,c] IS L3 F3 ?_;intro j f;have f:j<3:=f;match j,f with
 |0,_=>simp[Addr.add,m,l]
 |1,_=>simp[Addr.add,h1,i]
 |2,_=>simp[Addr.add,h2,hz]
 |k+3,h=>exact absurd h (by omega)
theorem I6 (i:Nat)(h:i<1000):(∀(w:M) (g:Nat),w.cell? (Q g 0 U)=T (J .u8 (48+(i:Int) / 100))->w.cell? (Q g 1 U)=T (J .u8 (48+(i:Int) / 10 % 10))->w.cell? (Q g 2 U)=T (J .u8 (48+(i:Int) % 10))->(convert 22 9 (Z (T (Q g 0 U)) 3 3)).run Pg w=.ok (Y ⟨#[dig (i / 100),dig (i / 10 % 10),dig (i % 10)]⟩) w)/\IntKind.i64.wrap ((i:Int) / 100)=(i:Int) / 100/\IntKind.i64.wrap ((i:Int) / 10)=(i:Int) / 10/\IntKind.i64.wrap ((i:Int) / 10 % 10)=(i:Int) / 10 % 10/\IntKind.i64.wrap ((i:Int) % 10)=(i:Int) % 10/\(i:Int).tmod 10=(i:Int) % 10/\((i:Int) / 10).tmod 10=(i:Int) / 10 % 10/\IntKind.i64.wrap (48+(i:Int) / 100)=48+(i:Int) / 100/\IntKind.i64.wrap (48+(i:Int) / 10 % 10)=48+(i:Int) / 10 % 10/\IntKind.i64.wrap (48+(i:Int) % 10)=48+(i:Int) % 10/\IntKind.u8.wrap (48+(i:Int) / 100)=48+(i:Int) / 100/\IntKind.u8.wrap (48+(i:Int) / 10 % 10)=48+(i:Int) / 10 % 10/\IntKind.u8.wrap (48+(i:Int) % 10)=48+(i:Int) % 10 :=
 ⟨yQ (48+(i:Int) / 100) (48+(i:Int) / 10 % 10) (48+(i:Int) % 10) (dig (i / 100)) (dig (i / 10 % 10)) (dig (i % 10)) (by have:=digit (i / 100) (by omega);omega) (by have:=digit (i / 10 % 10) (by omega);omega) (by have:=digit (i % 10) (by omega);omega),(by rw[p9];omega),(by rw[p9];omega),(by rw[p9];omega),(by rw[p9];omega),QN (by omega),QN (by omega),(by rw[p9];omega),(by rw[p9];omega),(by rw[p9];omega),(by rw[TG];omega),(by rw[TG];omega),(by rw[TG];omega)⟩
theorem oh (i:Nat)(h:i<1000)(w:M):Calls Pg 97 #[J I i] w λe b=>∃s:ByteArray,e=ZF (Y s)/\s.size<=4/\Below (N (A w)) w b:=by obtain⟨hcv,q1,q2,q3,q4,q5,q6,r1,r2,r3,s1,s2,s3⟩:=I6 i h;go_enter func97,ntmps97;go_wp2;go_ret;refine⟨_,rfl,?_,br.alloc ly _⟩;simp only[IH];exact n6 4
theorem Gt (k:Nat)(h:k<16)(w:M):(Instr.index 9 (Y ⟨#[48,49,50,51,52,53,54,55,56,57,97,98,99,100,101,102]⟩) (J .u8 (k:Int))).run Pg w=.ok (J .u8 (cO k).toNat) w:=by rcases(show k=0∨k=1∨k=2∨k=3∨k=4∨k=5∨k=6∨k=7∨k=8∨k=9∨k=10∨k=11∨k=12∨k=13∨k=14∨k=15 by omega) with rfl|rfl|rfl|rfl|rfl|rfl|rfl|rfl|rfl|rfl|rfl|rfl|rfl|rfl|rfl|rfl;all_goals kernel_rfl
theorem AK (c:UInt8)(w:M):Calls Pg 241 #[J .u8 c.toNat] w λe b=>e=ZF (Z (T (Q (N (A w)) 0 U)) 2 2)/\b.ownsRow (N (A w)) 5 1 (Z (T (Q (N (A w)) 0 U)) 2 2) 2 (Lib.byteCells (dU c))/\Below (N (A w)) w b:=by
 have hc:=c.toNat_lt;have i1:∀w:M,(Instr.index 9 (Y ⟨#[48,49,50,51,52,53,54,55,56,57,97,98,99,100,101,102]⟩) (J .u8 ((c.toNat:Int) / 16))).run Pg w=.ok (J .u8 (cO (c.toNat / 16)).toNat) w:=λw=>Gt (c.toNat / 16) (by omega) w;have i2:∀w:M,(Instr.index 9 (Y ⟨#[48,49,50,51,52,53,54,55,56,57,97,98,99,100,101,102]⟩) (J .u8 ((c.toNat:Int) % 16))).run Pg w=.ok (J .u8 (cO (c.toNat % 16)).toNat) w:=λw=>Gt (c.toNat % 16) (by omega) w;go_enter func241,ntmps241;go_wp2;go_region;go_wp2;go_ret;refine⟨rfl,?_,?_⟩;{exact World.ownsRow_lit w #[J .u8 (cO (c.toNat / 16)).toNat,J .u8 (cO (c.toNat % 16)).toNat] 2 ly (by unfold maxLen;omega) rfl};{exact(br.alloc ly _).drew}
theorem wK (p1:32<=(c.toNat:Int))(p2:(c.toNat:Int)<=126)(b:((c.toNat:Int) != 34)=ZG)(f:((c.toNat:Int) != 92)=ZG):cf c=ZG:=by simp only[XQ,ne_eq] at b f;simp[cf];omega
theorem uk (h:¬ (32<=(c.toNat:Int)/\(c.toNat:Int)<=126/\((c.toNat:Int) != 34)=ZG/\((c.toNat:Int) != 92)=ZG)):cf c=ZA:=by simp only[XQ,ne_eq] at h;simp[cf];omega
theorem er (c:UInt8)(w:M):Calls Pg 196 #[J .u8 c.toNat] w λe j=>e=ZF (.bool (cf c))/\j=w:=by
 by_cases g:32<=(c.toNat:Int)/\(c.toNat:Int)<=126/\((c.toNat:Int) != 34)=ZG/\((c.toNat:Int) != 92)=ZG;{obtain⟨b,f,h,i⟩:=g;rw[wK b f h i];go_enter func196,ntmps196;go_wp2;go_ret;exact⟨rfl,rfl⟩}
 ·rw[uk g];have hn:(c.toNat:Int)<32∨(32<=(c.toNat:Int)/\126<(c.toNat:Int))∨(32<=(c.toNat:Int)/\(c.toNat:Int)<=126/\((c.toNat:Int) != 34)=ZA)∨(32<=(c.toNat:Int)/\(c.toNat:Int)<=126/\((c.toNat:Int) != 34)=ZG/\((c.toNat:Int) != 92)=ZA):=by simp only[XQ,ne_eq,bne_eq_false_iff_eq] at g ⊢;omega
  clear g;rcases hn with b|⟨b,f⟩|⟨b,f,h⟩|⟨b,f,h,i⟩
  all_goals
   go_enter func196,ntmps196;go_wp2;go_ret;exact⟨rfl,rfl⟩
theorem yR:(Pg.info? 5).map (λi=>(i.zero,i.size,i.bytes))=T (T (J .u8 0),1,1):=by kernel_rfl
def Bs (w:M)(base:Nat)(v:ZC)(l:List UInt8):Prop:=w.ownsRow base 5 1 v l.length (Lib.byteCells l)
theorem Bs.aq{v:ZC}(h:Bs w base v l)(c:l≠[]):∃g cap,v=Z (T (Q g 0 U)) l.length cap/\base<=g/\g<N (A w):=by
 have b:0<l.length:=by cases l with|nil=>exact absurd rfl c|cons _ _=>simp
 obtain⟨g,cap,e⟩:=Joins.ownsRow_form h b;have:=h.lt g (by rw[e];rfl);exact⟨g,cap,e,this.1,this.2⟩
theorem Bs.aa{b:M}{B:Nat}{v:ZC}(h:Bs w base v l)(hb:Below B w b)(m:N (A w)<=B):Bs b base v l:=by
 refine⟨h.1,?_⟩;rcases h.2 with hn|⟨g,cap,c,j,i,f,r⟩
 {exact .inl hn};{exact .inr ⟨g,cap,c,j,i,by rw[hb.block g (lj (eT.1 f).1 m)];exact f,r⟩}
theorem Bs.cell{cap:Nat}(h:Bs w base (Z (T (Q g 0 U)) n cap) l)(j:Nat)(b:j<l.length):w.cell? (((Q g 0 U):Addr).add j)=T (J .u8 l[j].toNat):=by refine UJ h (g:=g) rfl j _ ?_;simp[Lib.byteCells,b]
theorem Bs.lit (w:M)(base:Nat)(l:List UInt8)(hb:base<=N (A w))(f:l.length<=maxLen)(b:Array ZC)(c:b.toList=Lib.byteCells l):Bs (w.alloc (.cells b 5)) base (Z (T (Q (N (A w)) 0 U)) l.length l.length) l:=by have h:=World.ownsRow_lit (base:=base) (e:=5) (size:=1) w b l.length hb f (by rw[<-PX,c];simp[Lib.byteCells]);rw[c] at h;exact h
theorem xN (w:M)(g:Nat)(ty:TypeId)(v:ZC)(l:List UInt8)(t:Bs w g v l)(r:Addr)(c:Nat)(f:List UInt8)
  (n:∀j (h:j<f.length),w.cell? (r.add j)=T (J .u8 f[j].toNat)) (hb:l.length+f.length<=140737488355328) (p:g<=N (A w)) :
  ∃o m,(Builtin.append_ #[22,22] ty #[v,Z (T r) f.length c]).run Pg w=.ok o m/\Bs m g o (l++f)/\w.grownBy m v.ownBlock:=by
 obtain⟨i,hi,hz⟩:=OB.1 yR;simp only[LK] at hz;obtain⟨h1,h2,h3⟩:=hz;obtain⟨o,m,y,z,ZR,_⟩:=run_append_own (P:=Pg) w g 22 ty 5 i (J .u8 0) 1 1 IS hi h1 h2 h3 rfl (by decide) v l.length (Lib.byteCells l) t r f.length c (Lib.byteCells f)
  (by simp[Lib.byteCells]) (λj u s=>by
   have q:j<f.length:=by have:=(n8.1 s).1;simpa[Lib.byteCells] using this
   rw[n j q];simp only[Lib.byteCells,NZ,gq q,UR,OJ] at s
   rw[<-s])
  (λu x=>by simp only[Lib.byteCells,QP] at x;obtain⟨b,_,rfl⟩:=x;rfl) (by unfold maxLen;omega) (by omega) p
 refine⟨o,m,y,?_,ZR⟩;unfold Bs;rw[cM];have e:Lib.byteCells (l++f)=Lib.byteCells l++Lib.byteCells f:=by simp[Lib.byteCells]
 rw[e];exact z
theorem lm (t:o.guard=U)(s x:Operand)
  (z:o.op=.call { callee:=.builtin .append,args:=#[s,x],argTypes:=#[22,22] }) (b:Nat) (v:ZC) (l:List UInt8) (ZR:a.eval s=v) (r:Bs w b v l)
  (q:Addr) (c:Nat) (f:List UInt8) (y:a.eval x=Z (T q) f.length c)
  (i:∀j (h:j<f.length),w.cell? (q.add j)=T (J .u8 f[j].toNat)) (hb:l.length+f.length<=140737488355328) (n:b<=N (A w))
  (h:∀m g,Bs g b m (l++f)->w.grownBy g v.ownBlock->wpList Pg p ZM rest (a.put o.dst m) g):wpList Pg p ZM (o::rest) a w:=by
 refine wpList_plain t λK B=>?_;obtain⟨m,g,u,h2,h3⟩:=xN w b o.type v l r q c f i hb n;unfold Oper.wp execOp;simp only[z,resolve,invoke,builtin,WF,WG,SU,UB,PM,PQ,ZR,y,u];exact B _ _ (h m g h2 h3)
theorem gv{K:Act->M->Prop}{E:Prop}(t:o.guard=U)(s x:Operand)
  (ZR:o.op=.call { callee:=.builtin .append,args:=#[s,x],argTypes:=#[22,22] }) (b:Nat) (v:ZC) (l:List UInt8) (B:a.eval s=v) (r:Bs w b v l)
  (q:Addr) (c:Nat) (f:List UInt8) (y:a.eval x=Z (T q) f.length c)
  (i:∀j (h:j<f.length),w.cell? (q.add j)=T (J .u8 f[j].toNat)) (hb:l.length+f.length<=140737488355328) (n:b<=N (A w))
  (h:∀m g,Bs g b m (l++f)->w.grownBy g v.ownBlock->K (a.put o.dst m) g):if Region.wanted o (yielded p a.tmps)=ZG then Oper.wp Pg o a w K ZM else E:=by
 have z:Region.wanted o (yielded p a.tmps)=ZG:=by simp[Region.wanted,t]
 rw[p6 z];obtain⟨m,g,u,h2,h3⟩:=xN w b o.type v l r q c f i hb n;unfold Oper.wp;simp[execOp,ZR,resolve,invoke,builtin,B,y,u,Result.andThen];exact h m g h2 h3
theorem yS{m:Array Oper}(p:o.guard=U)(sl x:Operand)
  (t:o.op=.call { callee:=.builtin .append,args:=#[sl,x],argTypes:=#[22,9] }) (b:Nat) (v:ZC) (l:List UInt8) (u:a.eval sl=v) (n:Bs w b v l)
  (c:List UInt8) (s:a.eval x=Y ⟨c.toArray⟩) (hb:l.length+c.length<=140737488355328) (j:b<=N (A w))
  (h:∀g f,Bs f b g (l++c)->w.grownBy f v.ownBlock->wpList Pg m ZM rest (a.put o.dst g) f):wpList Pg m ZM (o::rest) a w:=by
 obtain⟨i,hi,hz⟩:=OB.1 yR;simp only[LK] at hz;obtain⟨h1,h2,h3⟩:=hz;have q:(⟨c.toArray⟩:ByteArray).size=c.length:=by simp[ByteArray.size]
 refine Lib.wpList_append_own_string w p sl x 22 9 t b 5 i IS F3 hi h1 h2 h3 v l.length (Lib.byteCells l) u n ⟨c.toArray⟩ s (by unfold maxLen;omega) (by omega) j ?_;intro g f r y _;refine h g f ?_ y;unfold Bs;rw[q] at r;have e:Lib.byteCells (l++c)=Lib.byteCells l++Lib.strCells ⟨c.toArray⟩:=by simp[Lib.byteCells,Lib.strCells]
 rw[cM,e];exact r
theorem DT (w:M)(b:Nat)(v:ZC)(l:List UInt8)(h:Bs w b v l)(c:l≠[]):(convert 22 9 v).run Pg w=.ok (Y ⟨l.toArray⟩) w:=by obtain⟨g,cap,rfl,_,_⟩:=h.aq c;exact PR w 22 9 5 (Q g 0 U) cap l IS L3 F3 (λj f=>h.cell j f)
theorem gD{b:UInt8}(h:w.cell? (Q g 0 U)=T (J .u8 b.toNat)):∀j (c:j < [b].length),w.cell? (((Q g 0 U):Addr).add j)=T (J .u8 [b][j].toNat):=by
 intro j c;obtain rfl:j=0:=by simpa using c
 simpa[Addr.add] using h
def yT (w:M)(h:Nat)(c:UInt8):Prop:=∀j (hj:j<(dU c).length),w.cell? (((Q h 0 U):Addr).add j)=T (J .u8 (dU c)[j].toNat)
theorem DU (c:UInt8)(w:M):Calls Pg 241 #[J .u8 c.toNat] w λe b=>e=ZF (Z (T (Q (N (A w)) 0 U)) 2 2)/\yT b (N (A w)) c/\(N (A w))<N (A b)/\Below (N (A w)) w b :=
 (AK c w).mono λ_ _ ⟨g,f,hb⟩=>⟨g,λj h=>Bs.cell (l:=dU c) f j h,(f.lt (N (A w)) rfl).2,hb⟩
set_option linter.unusedSimpArgs false in
theorem kN (s:ByteArray)(w:M)(hs:s.size<=2000):Calls Pg 189 #[Y s] w λe z=>e=ZF (Y ⟨(aF s.data.toList).toArray⟩)/\Below (N (A w)) w z:=by
  go_enter func189,ntmps189;go_wp2;go_loopw [3,4] (λv i wr=>∃k:Nat,k<=s.size/\i=J I k/\Bs wr (N (A w)) v (qTo s.data.toList k)/\Below (N (A w)) w wr) (λ_ i _=>s.size - (intOf i).toNat);case atStart=>exact⟨0,by omega,rfl,Bs.lit w _ [34] ly (by unfold maxLen;simp) _ rfl,br.alloc ly _⟩
  case round =>
    obtain⟨k,hk,rfl,ZL,R⟩:=hrel;have C:=ae R;have ZR:=ae ZL;have r:N (A w)<=N (A wr):=R.size;clear R ZL;have hql:=ui s.data.toList k;obtain⟨g,cap,rfl,hg0,hg1⟩:=ZR.aq (IZ _ _);by_cases ZI:k<s.size
    · have ZN:=ae (uh s k ZI);have hc:=s[k].toNat_lt;by_cases K:32<=(s[k].toNat:Int)/\(s[k].toNat:Int)<=126/\((s[k].toNat:Int) != 34)=ZG/\((s[k].toNat:Int) != 92)=ZG
      · obtain⟨L,ZM,p3,p4⟩:=K;go_wp2_with (at_builtin;refine lm rfl _ _ rfl (N (A w)) _ (qTo s.data.toList k) rfl ?h1 (Q (N (A wr)) 0 U) 1 [s[k]] rfl ?h2 ?h3 ?h4 ?_);case h1=>exact ZR.aa (br.alloc ly _) ly
        case h2 =>
          intro j hj;obtain rfl:j=0:=by simpa using hj
          simp[Addr.add]
        case h3=>simp only[eL,nX];omega
        case h4=>simp;omega
        intro X z u y;have ZJ:=ae u;have D:Hid (Below (N (A w)) w z):=(C.alloc r _).grown y (by simp;omega) (λx f=>by simp[Value.ownBlock] at f;omega);clear u y;go_wp2;exact⟨⟨k+1,by omega,by go_num,by rw[ZN.out];unfold enc;rw[p6 (by simp[cf] at *;omega)];exact ZJ,D⟩,by simp[intOf];omega⟩
      · have hn:(s[k].toNat:Int)<32∨(32<=(s[k].toNat:Int)/\126<(s[k].toNat:Int))∨(32<=(s[k].toNat:Int)/\(s[k].toNat:Int)<=126/\((s[k].toNat:Int) != 34)=ZA)∨(32<=(s[k].toNat:Int)/\(s[k].toNat:Int)<=126/\((s[k].toNat:Int) != 34)=ZG/\((s[k].toNat:Int) != 92)=ZA):=by
          simp only[XQ,ne_eq,bne_eq_false_iff_eq] at K ⊢;omega
        have HE:Hid (enc s[k]=[92]++dU s[k]):=by
          show enc s[k]=[92]++dU s[k];unfold enc;rw[gM];{rfl};{simp only[XQ,ne_eq] at K;simp[cf];omega}
        clear K;rcases hn with L|⟨L,ZM⟩|⟨L,ZM,p3⟩|⟨L,ZM,p3,p4⟩
        all_goals
          go_wp2_with fail
          go_region_law (first
            | (refine gv rfl (.tmp 40) (.tmp 41) rfl (N (A w)) (Z (T (Q g 0 U)) (qTo s.data.toList k).length cap) (qTo s.data.toList k) (by simp[Act.eval,Act.put]) ?_ (Q (N (A wr)) 0 U) 1 [92] (by simp[Act.eval,Act.put]) ?_ ?_ ?_ ?_
               · exact ZR.aa (br.alloc ly _).drew ly
               · exact gD (by simp)
               · simp only[cM,eL,nX,dU];omega
               · first|(simp;omega)|omega
               intro W q b c;obtain⟨B,o,rfl,ZQ,P⟩:=b.aq (by simp);have t:=ae b;have l:Hid (Below (N (A w)) w q):=bg ((C.alloc r _).drew) c (by first|(simp;omega)|omega) (λx f=>by simp[Value.ownBlock] at f;omega);have ZP:N (A w)<=N (A q):=l.size
               clear b c)
            | (refine gv rfl (.tmp 42) (.tmp 46) rfl (N (A w)) (Z (T (Q B 0 U)) (qTo s.data.toList k++[92]).length o) (qTo s.data.toList k++[92]) (by simp[Act.eval,Act.put]) ?_ (Q (N (A q)) 0 U) 2 (dU s[k]) (by simp[Act.eval,Act.put,dU]) ?_ ?_ ?_ ?_
               · exact t.aa h ly
               · exact S
               · simp only[cM,eL,nX,dU];omega
               · first|(simp;omega)|omega
               intro V F n m;have E:=ae n;have H:Hid (Below (N (A w)) w F):=bg (l.trans (h.mono ZP)) m (by first|(simp;omega)|omega) (λx f=>by simp[Value.ownBlock] at f;omega)
               clear n m)
            | (refine gv rfl (.tmp 40) (.tmp 41) rfl (N (A w)) (Z (T (Q g 0 U)) (qTo s.data.toList k).length cap) (qTo s.data.toList k) (by simp[Act.eval,Act.put]) ?_ (Q (N (A wr)) 0 U) 1 [92] (by simp[Act.eval,Act.put]) ?_ ?_ ?_ ?_
               · exact ZR.aa ((br.alloc ly _).drew.trans (h.mono (by simp))) ly
               · exact gD ((h.cell (p:=(Q (N (A wr)) 0 U)) (by simp)).trans (by simp))
               · simp only[cM,eL,nX,dU];omega
               · first|(simp;omega)|omega
               intro W q b c;obtain⟨B,o,rfl,ZQ,P⟩:=b.aq (by simp);have t:=ae b;have l:Hid (Below (N (A w)) w q):=bg ((C.alloc r _).drew.trans (h.mono (by simp;omega))) c (by first|(simp;omega)|omega) (λx f=>by simp[Value.ownBlock] at f;omega);have ZP:N (A w)<=N (A q):=l.size;have G:Hid (yT q (N (A wr)+1) s[k]):=S.kept (c.block _ (by simpa using O) (by simp[Value.ownBlock];omega))
               clear b c)
            | (refine gv rfl (.tmp 40) (.tmp 41) rfl (N (A w)) (Z (T (Q g 0 U)) (qTo s.data.toList k).length cap) (qTo s.data.toList k) (by simp[Act.eval,Act.put]) ?_ (Q (N (A wH)) 0 U) 1 [92] (by simp[Act.eval,Act.put]) ?_ ?_ ?_ ?_
               · exact ZR.aa ((br.drew.trans h).alloc h.size _) ly
               · exact gD (by simp)
               · simp only[cM,eL,nX,dU];omega
               · first|(simp;omega)|omega
               intro W q b c;obtain⟨B,o,rfl,ZQ,P⟩:=b.aq (by simp);have t:=ae b;have l:Hid (Below (N (A w)) w q):=bg (((C.drew.trans (h.mono r)).alloc (p7 r h.size) _)) c (by first|(simp;omega)|omega) (λx f=>by simp[Value.ownBlock] at f;omega);have ZP:N (A w)<=N (A q):=l.size;have G:Hid (yT q (N (A wr)) s[k]):=(S.kept (Below.heap_alloc _ _ _ O)).kept (c.block _ (by simp;omega) (by simp[Value.ownBlock];omega))
               clear b c)
            | (refine gv rfl (.tmp 42) (.tmp 46) rfl (N (A w)) (Z (T (Q B 0 U)) (qTo s.data.toList k++[92]).length o) (qTo s.data.toList k++[92]) (by simp[Act.eval,Act.put]) ?_ (Q (N (A wr)+1) 0 U) 2 (dU s[k]) (by simp[Act.eval,Act.put,dU]) ?_ ?_ ?_ ?_
               · exact t
               · exact G
               · simp only[cM,eL,nX,dU];omega
               · first|(simp;omega)|omega
               intro V F n m;have E:=ae n;have H:Hid (Below (N (A w)) w F):=bg (l) m (by first|(simp;omega)|omega) (λx f=>by simp[Value.ownBlock] at f;omega)
               clear n m)
            | (refine gv rfl (.tmp 42) (.tmp 46) rfl (N (A w)) (Z (T (Q B 0 U)) (qTo s.data.toList k++[92]).length o) (qTo s.data.toList k++[92]) (by simp[Act.eval,Act.put]) ?_ (Q (N (A wr)) 0 U) 2 (dU s[k]) (by simp[Act.eval,Act.put,dU]) ?_ ?_ ?_ ?_
               · exact t
               · exact G
               · simp only[cM,eL,nX,dU];omega
               · first|(simp;omega)|omega
               intro V F n m;have E:=ae n;have H:Hid (Below (N (A w)) w F):=bg (l) m (by first|(simp;omega)|omega) (λx f=>by simp[Value.ownBlock] at f;omega)
               clear n m)
            |(go_simp;go_at_call 241;refine(DU _ _).mono ?_;rintro e wH ⟨rfl,hH,O,ZO⟩;have S:=ae hH;have h:=ae ZO;clear hH ZO))
          all_goals
            go_wp2;exact⟨⟨k+1,by omega,by go_num,by rw[ZN.out,HE.out,<-ON];exact E,H⟩,by simp[intOf];omega⟩
    · have e:k=s.size:=by omega
      subst e;have ZN:Hid (aF s.data.toList=qTo s.data.toList s.size++[34]):=by
        show aF s.data.toList=qTo s.data.toList s.size++[34]
        unfold aF;simp
      go_wp2_with (at_builtin;refine lm rfl _ _ rfl (N (A w)) _ (qTo s.data.toList s.size) rfl ?h1 (Q (N (A wr)) 0 U) 1 [34] rfl ?h2 ?h3 ?h4 ?_);case h1=>exact ZR.aa (br.alloc ly _) ly
      case h2=>exact gD (by simp)
      case h3=>simp only[eL,nX];omega
      case h4=>simp;omega
      intro X z u y;have D:Hid (Below (N (A w)) w z):=(C.alloc r _).grown y (by simp;omega) (λx f=>by simp[Value.ownBlock] at f;omega);have ZK:=DT z _ X _ u (by simp);rw[<-ZN.out] at ZK;clear u y;go_wp2;go_ret;exact⟨rfl,D⟩
theorem yU (s:ByteArray)(w:M)(f:s.size<=2000):Calls Pg 190 #[.agg #[J I 1,Y s,J I 0]] w λe b=>e=ZF (Y ⟨(aR 1 s.data.toList 0).toArray⟩)/\Below (N (A w)) w b:=by
 have g:=ep s.data.toList;have c:s.data.toList.length=s.size:=by simp
 rw[c] at g;clear c;go_enter func190,ntmps190;go_wp2_with (first|(go_at_call 189;refine(kN _ _ f).mono ?_;rintro e b ⟨rfl,h⟩)|go_in);all_goals go_ret
 refine⟨fO ?_,(br.alloc ly _).trans (h.mono (by simp))⟩;apply N5;simp[aR,kind,word]
theorem yV (op:Int)(m:Nat)(w:M)(c:op=3∨op=4∨op=5∨op=10∨op=11)(g:m<=2000):Calls Pg 190 #[.agg #[J I op,Y ⟨#[]⟩,J I m]] w λe b=>e=ZF (Y ⟨(aR op [] m).toArray⟩)/\Below (N (A w)) w b:=by
 have hq:=nN m g;rcases c with rfl|rfl|rfl|rfl|rfl;all_goals
  go_enter func190,ntmps190;go_wp2_with (first|(go_at_call 104;refine(gC m (by omega) _).mono ?_;rintro e b ⟨rfl,f⟩)|go_in);all_goals go_ret
  refine⟨fO ?_,(br.alloc ly _).trans (f.mono (by simp))⟩;apply N5;simp[aR,kind,word]
theorem wL (op:Int)(w:M)(b:op=2∨op=6∨op=7∨op=8∨op=9∨op=12∨op=13∨op=14∨op=15):Calls Pg 190 #[.agg #[J I op,Y ⟨#[]⟩,J I 0]] w λe c=>e=ZF (Y ⟨(aR op [] 0).toArray⟩)/\Below (N (A w)) w c:=by
 rcases b with rfl|rfl|rfl|rfl|rfl|rfl|rfl|rfl|rfl;all_goals
  go_enter func190,ntmps190;go_wp2;go_ret;exact⟨rfl,br.alloc ly _⟩
theorem jv (op:Int)(s:ByteArray)(n:Int)(w:M)(h:aH op s.size n=ZG):Calls Pg 190 #[.agg #[J I op,Y s,J I n]] w λe c=>e=ZF (Y ⟨(aR op s.data.toList n).toArray⟩)/\Below (N (A w)) w c:=by
 rcases iR h with ⟨rfl,f,rfl⟩|⟨b,rfl,m,rfl,g⟩|⟨b,rfl,rfl⟩
 {exact yU s w f};{exact yV op m w b g};{exact wL op w b}
def bR (z:Nat):Nat->List UInt8
 |0=>[]
 |k+1=>cO (z / 16 ^ k % 16)::bR z k
theorem fJ (z k:Nat):(bR z k).length=k:=by
 induction k with
 |zero=>rfl
 |succ k b=>simp[bR,b]
theorem GK (k:Nat)(h:k<16)(w:M):(Instr.index 9 (Y ⟨#[48,49,50,51,52,53,54,55,56,57,97,98,99,100,101,102]⟩) (J .u64 (k:Int))).run Pg w=.ok (J .u8 (cO k).toNat) w:=by rcases(show k=0∨k=1∨k=2∨k=3∨k=4∨k=5∨k=6∨k=7∨k=8∨k=9∨k=10∨k=11∨k=12∨k=13∨k=14∨k=15 by omega) with rfl|rfl|rfl|rfl|rfl|rfl|rfl|rfl|rfl|rfl|rfl|rfl|rfl|rfl|rfl|rfl;all_goals kernel_rfl
theorem um (s:ByteArray)(w:M)(hs:(s.size:Int)<=1048576):Calls Pg 77 #[Y s] w λe O=>e=ZF (Y ⟨(bR (sumTo s s.size).toNat 16).toArray⟩)/\Below (N (A w)) w O:=by
 obtain⟨ZL,t⟩:∃ZL,ZL=bR (sumTo s s.size).toNat 16:=⟨_,rfl⟩
 rw[<-t];have W:=ae t;clear t;go_enter func77,ntmps77;go_wp2;go_loop [3,4] (λc i=>∃(k:Nat) (z:Int),k<=s.size/\0<=z/\z<=18446744073709551615/\Hid (z=sumTo s k)/\c=J .u64 z/\i=J I k) (λ_ i=>s.size - (intOf i).toNat);case atStart=>exact⟨0,14695981039346656037,by omega,by omega,by omega,rfl,rfl,rfl⟩
 case round =>
  obtain⟨k,z,V,ZR,E,u,rfl,rfl⟩:=hrel;by_cases n:k<s.size
  ·have ZK:Hid (IntKind.u64.wrap (bits BinOp.xor IntKind.u64 z (IntKind.u64.wrap (s[k].toNat:Int))*1099511628211)=sumTo s (k+1)):=by show _=_;rw[u.out];exact(pK s k n).symm
   have ZN:=ae (lK s (k+1));go_wp2;rw[ZK.out];exact⟨⟨k+1,_,by omega,ZN.1,ZN.2,rfl,rfl,by go_num⟩,by simp[intOf];omega⟩
  ·obtain rfl:k=s.size:=by omega
   obtain⟨ZO,ZP⟩:∃ZO:Nat,z=(ZO:Int):=⟨z.toNat,by omega⟩
   have K:Hid ((sumTo s s.size).toNat=ZO):=by show _=_;rw[<-u.out,ZP];rfl
   have L:Hid (ZL=bR ZO 16):=by show _=_;rw[W.out,K.out]
   subst ZP;have F:ZO<=18446744073709551615:=by omega
   clear u K ZR E;go_wp2;go_loopw [3,5,6] (λc v i wr=>∃(k q g f:Nat),k<=16/\Hid (q=ZO / 16 ^ k)/\q<=18446744073709551615/\c=J .u64 q/\v=Z (T (Q g 0 U)) k f/\i=J I k/\Hid (Bs wr (N (A w)) (Z (T (Q g 0 U)) k f) (bR ZO k))/\Hid (Below (N (A w)) w wr)) (λ_ _ i _=>16 - (intOf i).toNat);case atStart=>exact⟨0,ZO,N (A w),0,by omega,by show _=_;simp,F,rfl,rfl,rfl,Bs.lit w _ [] ly (by simp) _ rfl,br.alloc ly _⟩
   case round =>
    obtain⟨k,q,g,f,V,y,hqb,rfl,rfl,rfl,D,r⟩:=hrel;have ZQ:N (A w)<=N (A wr):=r.size;by_cases n:k<16
    ·obtain⟨d,H⟩:∃d:Nat,d=q % 16:=⟨_,rfl⟩
     obtain⟨e,B⟩:∃e:Nat,e=q / 16:=⟨_,rfl⟩
     have x:d<16:=by omega
     have hix:=GK d x;have hm1:(q:Int).tmod 16=(d:Int):=by rw[QN (by omega)];omega
     have hd1:(q:Int).tdiv 16=(e:Int):=by rw[Int.tdiv_eq_ediv_of_nonneg (by omega)];omega
     have X:Hid (bR ZO (k+1)=cO d::bR ZO k):=by show _=_;rw[bR,<-y.out,<-H]
     have S:Hid (e=ZO / 16 ^ (k+1)):=by show _=_;rw[B,y.out,Nat.div_div_eq_div_mul,Nat.pow_succ]
     have C:e<=18446744073709551615:=by omega
     have b:=fJ ZO k;clear H B;go_wp2_with (at_builtin;refine lm rfl _ _ rfl (N (A w)) _ [cO d] rfl ?h1 (Q g 0 U) f (bR ZO k) (by rw[b];rfl) ?h2 ?h3 ?h4 ?_);case h1=>exact Bs.lit wr _ [cO d] ZQ (by simp[maxLen]) _ (by simp[Lib.byteCells])
     case h2=>exact λj o=>D.aa ((q9 wr).alloc ly _) ly |>.cell j o
     case h3=>simp only[eL,nX,b];omega
     case h4=>simp;omega
     intro v8 w8 l m;obtain⟨R,ZI,rfl,_,_⟩:=l.aq (by simp);have ZJ:=ae l;have ZM:=ae (bg (r.alloc ZQ _) m (by simp;omega) (λj e=>by simp[Value.ownBlock] at e;omega));clear l m;go_wp2;refine⟨⟨k+1,e,R,ZI,by omega,S,C,rfl,?_,by go_num,?_,ZM⟩,by simp[intOf];omega⟩
     ·have p:(cO d::bR ZO k).length=k+1:=by simp[b]
      rw[p]
     ·have h:=ZJ.out;have p:(cO d::bR ZO k).length=k+1:=by simp[b]
      rw[p] at h;show Bs _ _ _ _;rw[X.out];exact h
    ·obtain rfl:k=16:=by omega
     have G:(convert 22 9 (Z (T (Q g 0 U)) 16 f)).run Pg wr=.ok (Y ⟨(bR ZO 16).toArray⟩) wr:=by have h:=PR (P:=Pg) wr 22 9 5 (Q g 0 U) f (bR ZO 16) IS L3 F3 (λj o=>D.cell j o);rw[fJ] at h;exact h
     rw[<-L.out] at G;go_wp2;go_ret;exact⟨rfl,r⟩
