import Derived.Lib.AppendStr
import Derived.Deep.RegionLaw
import Derived.Test.YtpmnbjkjpnclaaaGreatDoorSD
import Derived.Lib.ItoaNum
import Derived.Lib.ItoaLen
import Derived.Lib.ItoaMem
import Derived.Lib.SmallJoins
set_option maxRecDepth 100000
set_option maxHeartbeats 2000000
open Go renaming Addr.mk->Q,Value.slice->Z,Value.string->U,Value.int->N,Value.agg->ZH,IntKind.i64->I,World->M,Value->ZC,Ending.returned->ZF,World.heap->A,Proofs.Tryz.prog->Pg
open Option renaming none->Y,some->T
open Bool renaming false->ZA,true->ZG
open Array renaming size->J
namespace Go.Proofs.YtpmnbjkjpnclaaaGreatDoor.Vp
open Tryz RowKit
variable {w:M}{base n g:Nat}{l:List UInt8}{o:Oper}{a:Act}{ZN:Exit->Act->M->Prop}{c:UInt8}{p:Array Oper}{rest:List Oper}
def Cells (w:M)(b off m:Nat)(F:Nat->ZC):Prop:=b<J (A w)/\∀j,j<m->w.cell? (Q b (off+j) Y)=T (F j)/\w.frozen? (Q b (off+j) Y)=ZA
structure Touch (P:Nat->Prop)(w w':M):Prop where
 os:w'.os=w.os
 tape:w'.tape=w.tape
 output:w'.output=w.output
 size:J (A w)<=J (A w')
 block:∀k,k<J (A w)->¬ P k->w'.heap[k]?=w.heap[k]?
theorem oT (x:Int)(b:UInt8)(h:x=b.toNat)(w:M)(g:Nat)(f:w.cell? (Q g 0 Y)=T (N .u8 x)):(convert 22 9 (Z (T (Q g 0 Y)) 1 1)).run Pg w=.ok (U ⟨#[b]⟩) w:=by
 refine P0 _ 22 9 5 (Q g 0 Y) 1 [b] IS N5 F3 ?_;intro j c;obtain rfl:j=0:=by simpa using c
 simp[Addr.add,f,h]
def dig (n:Nat):UInt8:=UInt8.ofNat (48+n)
theorem digit (n:Nat)(h:n<10):(48+(n:Int))=(dig n).toNat:=by unfold dig;rw[OD];omega
theorem bV (h:¬ n<10):Lib.decDigits n=Lib.decDigits (n / 10)++[dig (n % 10)]:=by rw[Lib.decDigits,dif_neg h];rfl
theorem iS (n:Nat)(h:n<10)(w:M):Calls Pg 104 #[N I n] w λe b=>e=ZF (U ⟨#[dig n]⟩)/\Below (J (A w)) w b:=by have hcv:=oT (48+(n:Int)) _ (digit n h);go_enter func104,ntmps104;go_wp2;go_ret;exact⟨rfl,br.alloc ly _⟩
theorem gE (n:Nat):n<=9223372036854775807->∀w:M,
  Calls Pg 104 #[N I n] w λe f=>e=ZF (U ⟨(Lib.decDigits n).toArray⟩)/\Below (J (A w)) w f:=by
 induction n using Nat.strongRecOn with
 |ind n g =>
  intro hn w;by_cases h:n<10;{rw[Lib.decDigits_one h];exact iS n h w}
  ·have c:∀w:M,Calls Pg 104 #[N I ((n:Int) / 10)] w λe f=>e=ZF (U ⟨(Lib.decDigits (n / 10)).toArray⟩)/\Below (J (A w)) w f:=λw=>g (n / 10) (by omega) (by omega) w;have i:=ae c;clear g c;have hcv:=oT (48+(n:Int) % 10) (dig (n % 10)) (by have:=digit (n % 10) (by omega);omega);have q1:IntKind.i64.wrap ((n:Int) / 10)=(n:Int) / 10:=by rw[p9];omega
   have q2:IntKind.i64.wrap ((n:Int) % 10)=(n:Int) % 10:=by rw[p9];omega
   have q3:IntKind.i64.wrap (48+(n:Int) % 10)=48+(n:Int) % 10:=by rw[p9];omega
   have q5:(n:Int).tmod 10=(n:Int) % 10:=QV (by omega);have hl:(Lib.decDigits (n / 10)).length<=21:=by rw[<-Lib.itoa_nonneg];exact Lib.itoa_length_le _ (by omega) (by omega)
   have q4:IntKind.u8.wrap (48+(n:Int) % 10)=48+(n:Int) % 10:=by rw[TN];omega
   go_enter func104,ntmps104;go_wp2_with fail;go_region_with (go_at_call 104;refine(i _).mono ?_;rintro e w1 ⟨rfl,b⟩;have hc1:=(Ka b).1);all_goals
    go_wp2;go_ret;refine⟨fP ?_,?_⟩
    ·rw[bV h]
     apply ON;simp
    ·first
      |exact(br.drew.trans b).alloc b.size _
      |exact((br.alloc ly _).drew).trans (b.mono (by simp))
def cO (k:Nat):UInt8:=([48,49,50,51,52,53,54,55,56,57,97,98,99,100,101,102]:List UInt8).getD k 0
def dV (c:UInt8):List UInt8:=[cO (c.toNat / 16),cO (c.toNat % 16)]
def cf (c:UInt8):Bool:=decide (32<=c.toNat/\c.toNat<=126/\c.toNat≠34/\c.toNat≠92)
def enc (c:UInt8):List UInt8:=if cf c=ZG then [c] else 92::dV c
def qTo (l:List UInt8)(k:Nat):List UInt8:=34::(l.take k).flatMap enc
def aF (l:List UInt8):List UInt8:=qTo l l.length++[34]
theorem uk (s:ByteArray)(k:Nat)(h:k<s.size):qTo s.data.toList (k+1)=qTo s.data.toList k++enc s[k]:=by unfold qTo;rw[QW (by simpa using h)];simp;rfl
theorem Je (c:UInt8):(enc c).length<=3:=by unfold enc;split<;>simp[dV]
theorem GV (l:List UInt8):(l.flatMap enc).length<=3*l.length:=by
 induction l with
 |nil=>simp
 |cons c r ih=>have:=Je c;simp only[KK,cM,eL];omega
theorem um (l:List UInt8)(k:Nat):(qTo l k).length<=1+3*k:=by have h1:=GV (l.take k);have h2:=List.length_take_le k l;simp only[qTo,eL];omega
theorem Jf (l:List UInt8)(k:Nat):qTo l k≠[]:=by simp[qTo]
theorem ep (l:List UInt8):(aF l).length<=2+3*l.length:=by have:=um l l.length;simp only[aF,cM,eL,nX];omega
def aR (op:Int)(s:List UInt8)(n:Int):List UInt8 :=
 if kind op=1 then word op++(32::aF s) else if kind op=0 then word op else word op++(32::Lib.decDigits n.toNat)
theorem nQ (n:Nat)(h:n<=2000):(Lib.decDigits n).length<=21:=by rw[<-Lib.itoa_nonneg];exact Lib.itoa_length_le _ (by omega) (by omega)
theorem iT{op:Int}{s:ByteArray}{n:Int}(h:aH op s.size n=ZG):(op=1/\s.size<=2000/\n=0)∨((op=3∨op=4∨op=5∨op=10∨op=11)/\s=⟨#[]⟩/\∃m:Nat,n=m/\m<=2000) ∨
  ((op=2∨op=6∨op=7∨op=8∨op=9∨op=12∨op=13∨op=14∨op=15)/\s=⟨#[]⟩/\n=0):=by
 unfold aH at h;rw[z8] at h;obtain⟨h1,h2,h3,h4,b⟩:=h;by_cases f:op=1;{subst f;simp[aE,bO] at h3 b;exact .inl ⟨rfl,by omega,by omega⟩}
 ·have c:s.size=0:=by simp only[aE,gM f] at h3;omega
  by_cases g:op=3∨op=4∨op=5∨op=10∨op=11;{obtain⟨m,rfl⟩:=AP h4;refine .inr (.inl ⟨g,jj c,m,rfl,?_⟩);unfold bO at b;split at b;{omega};{split at b<;>omega}};{refine .inr (.inr ⟨by omega,jj c,?_⟩);unfold bO at b;rw[gM (by omega),gM (by omega)] at b;omega}
theorem un (op:Int)(s:ByteArray)(n:Int)(h:aH op s.size n=ZG):(aR op s.data.toList n).length<=6010:=by
 rcases iT h with ⟨rfl,hs,rfl⟩|⟨b,rfl,m,rfl,f⟩|⟨b,rfl,rfl⟩
 ·have c:=ep s.data.toList;have hl:s.data.toList.length=s.size:=by simp
  simp[aR,kind,word];omega
 {have c:=nQ m f;rcases b with rfl|rfl|rfl|rfl|rfl<;>simp[aR,kind,word]<;>omega};{rcases b with rfl|rfl|rfl|rfl|rfl|rfl|rfl|rfl|rfl<;>simp[aR,kind,word]}
theorem yT (x y z:Int)(a b c:UInt8)(l:x=a.toNat)(m:y=b.toNat)(hz:z=c.toNat)(w:M)(g:Nat)(i:w.cell? (Q g 0 Y)=T (N .u8 x))(h1:w.cell? (Q g 1 Y)=T (N .u8 y))(h2:w.cell? (Q g 2 Y)=T (N .u8 z)):(convert 22 9 (Z (T (Q g 0 Y)) 3 3)).run Pg w=.ok (U ⟨#[a,b,c]⟩) w:=by
 refine P0 _ 22 9 5 (Q g 0 Y) 3 [a,b,c] IS N5 F3 ?_;intro j f;have f:j<3:=f;match j,f with
 |0,_=>simp[Addr.add,i,l]
 |1,_=>simp[Addr.add,h1,m]
 |2,_=>simp[Addr.add,h2,hz]
 |k+3,h=>exact absurd h (by omega)
theorem Jg (i:Nat)(h:i<1000):(∀(w:M) (g:Nat),w.cell? (Q g 0 Y)=T (N .u8 (48+(i:Int) / 100))->w.cell? (Q g 1 Y)=T (N .u8 (48+(i:Int) / 10 % 10))->w.cell? (Q g 2 Y)=T (N .u8 (48+(i:Int) % 10))->(convert 22 9 (Z (T (Q g 0 Y)) 3 3)).run Pg w=.ok (U ⟨#[dig (i / 100),dig (i / 10 % 10),dig (i % 10)]⟩) w)/\IntKind.i64.wrap ((i:Int) / 100)=(i:Int) / 100/\IntKind.i64.wrap ((i:Int) / 10)=(i:Int) / 10/\IntKind.i64.wrap ((i:Int) / 10 % 10)=(i:Int) / 10 % 10/\IntKind.i64.wrap ((i:Int) % 10)=(i:Int) % 10/\(i:Int).tmod 10=(i:Int) % 10/\((i:Int) / 10).tmod 10=(i:Int) / 10 % 10/\IntKind.i64.wrap (48+(i:Int) / 100)=48+(i:Int) / 100/\IntKind.i64.wrap (48+(i:Int) / 10 % 10)=48+(i:Int) / 10 % 10/\IntKind.i64.wrap (48+(i:Int) % 10)=48+(i:Int) % 10/\IntKind.u8.wrap (48+(i:Int) / 100)=48+(i:Int) / 100/\IntKind.u8.wrap (48+(i:Int) / 10 % 10)=48+(i:Int) / 10 % 10/\IntKind.u8.wrap (48+(i:Int) % 10)=48+(i:Int) % 10 :=
 ⟨yT (48+(i:Int) / 100) (48+(i:Int) / 10 % 10) (48+(i:Int) % 10) (dig (i / 100)) (dig (i / 10 % 10)) (dig (i % 10)) (by have:=digit (i / 100) (by omega);omega) (by have:=digit (i / 10 % 10) (by omega);omega) (by have:=digit (i % 10) (by omega);omega),(by rw[p9];omega),(by rw[p9];omega),(by rw[p9];omega),(by rw[p9];omega),QV (by omega),QV (by omega),(by rw[p9];omega),(by rw[p9];omega),(by rw[p9];omega),(by rw[TN];omega),(by rw[TN];omega),(by rw[TN];omega)⟩
theorem ox (i:Nat)(h:i<1000)(w:M):Calls Pg 97 #[N I i] w λe b=>∃s:ByteArray,e=ZF (U s)/\s.size<=4/\Below (J (A w)) w b:=by obtain⟨hcv,q1,q2,q3,q4,q5,q6,r1,r2,r3,s1,s2,s3⟩:=Jg i h;go_enter func97,ntmps97;go_wp2;go_ret;refine⟨_,rfl,?_,br.alloc ly _⟩;simp only[IH];exact n6 4
theorem GA (k:Nat)(h:k<16)(w:M):(Instr.index 9 (U ⟨#[48,49,50,51,52,53,54,55,56,57,97,98,99,100,101,102]⟩) (N .u8 (k:Int))).run Pg w=.ok (N .u8 (cO k).toNat) w:=by rcases(show k=0∨k=1∨k=2∨k=3∨k=4∨k=5∨k=6∨k=7∨k=8∨k=9∨k=10∨k=11∨k=12∨k=13∨k=14∨k=15 by omega) with rfl|rfl|rfl|rfl|rfl|rfl|rfl|rfl|rfl|rfl|rfl|rfl|rfl|rfl|rfl|rfl;all_goals kernel_rfl
theorem AR (c:UInt8)(w:M):Calls Pg 241 #[N .u8 c.toNat] w λe b=>e=ZF (Z (T (Q (J (A w)) 0 Y)) 2 2)/\b.ownsRow (J (A w)) 5 1 (Z (T (Q (J (A w)) 0 Y)) 2 2) 2 (Lib.byteCells (dV c))/\Below (J (A w)) w b:=by
 have hc:=c.toNat_lt;have i1:∀w:M,(Instr.index 9 (U ⟨#[48,49,50,51,52,53,54,55,56,57,97,98,99,100,101,102]⟩) (N .u8 ((c.toNat:Int) / 16))).run Pg w=.ok (N .u8 (cO (c.toNat / 16)).toNat) w:=λw=>GA (c.toNat / 16) (by omega) w;have i2:∀w:M,(Instr.index 9 (U ⟨#[48,49,50,51,52,53,54,55,56,57,97,98,99,100,101,102]⟩) (N .u8 ((c.toNat:Int) % 16))).run Pg w=.ok (N .u8 (cO (c.toNat % 16)).toNat) w:=λw=>GA (c.toNat % 16) (by omega) w;go_enter func241,ntmps241;go_wp2;go_region;go_wp2;go_ret;refine⟨rfl,?_,?_⟩;{exact World.ownsRow_lit w #[N .u8 (cO (c.toNat / 16)).toNat,N .u8 (cO (c.toNat % 16)).toNat] 2 ly (by unfold maxLen;omega) rfl};{exact(br.alloc ly _).drew}
theorem wO (p1:32<=(c.toNat:Int))(p2:(c.toNat:Int)<=126)(f:((c.toNat:Int) != 34)=ZG)(b:((c.toNat:Int) != 92)=ZG):cf c=ZG:=by simp only[YA,ne_eq] at f b;simp[cf];omega
theorem uo (h:¬ (32<=(c.toNat:Int)/\(c.toNat:Int)<=126/\((c.toNat:Int) != 34)=ZG/\((c.toNat:Int) != 92)=ZG)):cf c=ZA:=by simp only[YA,ne_eq] at h;simp[cf];omega
theorem er (c:UInt8)(w:M):Calls Pg 196 #[N .u8 c.toNat] w λe j=>e=ZF (.bool (cf c))/\j=w:=by
 by_cases f:32<=(c.toNat:Int)/\(c.toNat:Int)<=126/\((c.toNat:Int) != 34)=ZG/\((c.toNat:Int) != 92)=ZG;{obtain⟨b,g,h,i⟩:=f;rw[wO b g h i];go_enter func196,ntmps196;go_wp2;go_ret;exact⟨rfl,rfl⟩}
 ·rw[uo f];have hn:(c.toNat:Int)<32∨(32<=(c.toNat:Int)/\126<(c.toNat:Int))∨(32<=(c.toNat:Int)/\(c.toNat:Int)<=126/\((c.toNat:Int) != 34)=ZA)∨(32<=(c.toNat:Int)/\(c.toNat:Int)<=126/\((c.toNat:Int) != 34)=ZG/\((c.toNat:Int) != 92)=ZA):=by simp only[YA,ne_eq,bne_eq_false_iff_eq] at f ⊢;omega
  clear f;rcases hn with b|⟨b,g⟩|⟨b,g,h⟩|⟨b,g,h,i⟩
  all_goals
   go_enter func196,ntmps196;go_wp2;go_ret;exact⟨rfl,rfl⟩
theorem yU:(Pg.info? 5).map (λi=>(i.zero,i.size,i.bytes))=T (T (N .u8 0),1,1):=by kernel_rfl
def Bs (w:M)(base:Nat)(v:ZC)(l:List UInt8):Prop:=w.ownsRow base 5 1 v l.length (Lib.byteCells l)
theorem Bs.av{v:ZC}(h:Bs w base v l)(b:l≠[]):∃g cap,v=Z (T (Q g 0 Y)) l.length cap/\base<=g/\g<J (A w):=by
 have c:0<l.length:=by cases l with|nil=>exact absurd rfl b|cons _ _=>simp
 obtain⟨g,cap,e⟩:=Joins.ownsRow_form h c;have:=h.lt g (by rw[e];rfl);exact⟨g,cap,e,this.1,this.2⟩
theorem Bs.aa{b:M}{B:Nat}{v:ZC}(h:Bs w base v l)(hb:Below B w b)(m:J (A w)<=B):Bs b base v l:=by
 refine⟨h.1,?_⟩;rcases h.2 with hn|⟨g,cap,c,i,j,f,r⟩
 {exact .inl hn};{exact .inr ⟨g,cap,c,i,j,by rw[hb.block g (lj (eT.1 f).1 m)];exact f,r⟩}
theorem Bs.cell{cap:Nat}(h:Bs w base (Z (T (Q g 0 Y)) n cap) l)(j:Nat)(b:j<l.length):w.cell? (((Q g 0 Y):Addr).add j)=T (N .u8 l[j].toNat):=by refine UR h (g:=g) rfl j _ ?_;simp[Lib.byteCells,b]
theorem Bs.lit (w:M)(base:Nat)(l:List UInt8)(hb:base<=J (A w))(f:l.length<=maxLen)(b:Array ZC)(c:b.toList=Lib.byteCells l):Bs (w.alloc (.cells b 5)) base (Z (T (Q (J (A w)) 0 Y)) l.length l.length) l:=by have h:=World.ownsRow_lit (base:=base) (e:=5) (size:=1) w b l.length hb f (by rw[<-QB,c];simp[Lib.byteCells]);rw[c] at h;exact h
theorem xQ (w:M)(g:Nat)(ty:TypeId)(v:ZC)(l:List UInt8)(t:Bs w g v l)(r:Addr)(c:Nat)(f:List UInt8)
  (m:∀j (h:j<f.length),w.cell? (r.add j)=T (N .u8 f[j].toNat)) (hb:l.length+f.length<=140737488355328) (o:g<=J (A w)) :
  ∃p n,(Builtin.append_ #[22,22] ty #[v,Z (T r) f.length c]).run Pg w=.ok p n/\Bs n g p (l++f)/\w.grownBy n v.ownBlock:=by
 obtain⟨i,hi,hz⟩:=OQ.1 yU;simp only[LN] at hz;obtain⟨h1,h2,h3⟩:=hz;obtain⟨p,n,z,ZS,y,_⟩:=run_append_own (P:=Pg) w g 22 ty 5 i (N .u8 0) 1 1 IS hi h1 h2 h3 rfl (by decide) v l.length (Lib.byteCells l) t r f.length c (Lib.byteCells f)
  (by simp[Lib.byteCells]) (λj u s=>by
   have q:j<f.length:=by have:=(n8.1 s).1;simpa[Lib.byteCells] using this
   rw[m j q];simp only[Lib.byteCells,OH,gq q,UX,OU] at s
   rw[<-s])
  (λu x=>by simp only[Lib.byteCells,QX] at x;obtain⟨b,_,rfl⟩:=x;rfl) (by unfold maxLen;omega) (by omega) o
 refine⟨p,n,z,?_,y⟩;unfold Bs;rw[cM];have e:Lib.byteCells (l++f)=Lib.byteCells l++Lib.byteCells f:=by simp[Lib.byteCells]
 rw[e];exact ZS
theorem lp (t:o.guard=Y)(s x:Operand)
  (B:o.op=.call { callee:=.builtin .append,args:=#[s,x],argTypes:=#[22,22] }) (b:Nat) (v:ZC) (l:List UInt8) (y:a.eval s=v) (r:Bs w b v l)
  (q:Addr) (c:Nat) (f:List UInt8) (z:a.eval x=Z (T q) f.length c)
  (i:∀j (h:j<f.length),w.cell? (q.add j)=T (N .u8 f[j].toNat)) (hb:l.length+f.length<=140737488355328) (m:b<=J (A w))
  (h:∀n g,Bs g b n (l++f)->w.grownBy g v.ownBlock->wpList Pg p ZN rest (a.put o.dst n) g):wpList Pg p ZN (o::rest) a w:=by
 refine wpList_plain t λK u=>?_;obtain⟨n,g,ZS,h2,h3⟩:=xQ w b o.type v l r q c f i hb m;unfold Oper.wp execOp;simp only[B,resolve,invoke,builtin,WO,WP,TC,UH,PU,PX,y,z,ZS];exact u _ _ (h n g h2 h3)
theorem gy{K:Act->M->Prop}{E:Prop}(t:o.guard=Y)(s x:Operand)
  (B:o.op=.call { callee:=.builtin .append,args:=#[s,x],argTypes:=#[22,22] }) (b:Nat) (v:ZC) (l:List UInt8) (y:a.eval s=v) (r:Bs w b v l)
  (q:Addr) (c:Nat) (f:List UInt8) (z:a.eval x=Z (T q) f.length c)
  (i:∀j (h:j<f.length),w.cell? (q.add j)=T (N .u8 f[j].toNat)) (hb:l.length+f.length<=140737488355328) (m:b<=J (A w))
  (h:∀n g,Bs g b n (l++f)->w.grownBy g v.ownBlock->K (a.put o.dst n) g):if Region.wanted o (yielded p a.tmps)=ZG then Oper.wp Pg o a w K ZN else E:=by
 have u:Region.wanted o (yielded p a.tmps)=ZG:=by simp[Region.wanted,t]
 rw[p6 u];obtain⟨n,g,ZS,h2,h3⟩:=xQ w b o.type v l r q c f i hb m;unfold Oper.wp;simp[execOp,B,resolve,invoke,builtin,y,z,ZS,Result.andThen];exact h n g h2 h3
theorem yV{m:Array Oper}(r:o.guard=Y)(sl x:Operand)
  (y:o.op=.call { callee:=.builtin .append,args:=#[sl,x],argTypes:=#[22,9] }) (b:Nat) (v:ZC) (l:List UInt8) (s:a.eval sl=v) (n:Bs w b v l)
  (c:List UInt8) (t:a.eval x=U ⟨c.toArray⟩) (hb:l.length+c.length<=140737488355328) (g:b<=J (A w))
  (h:∀j f,Bs f b j (l++c)->w.grownBy f v.ownBlock->wpList Pg m ZN rest (a.put o.dst j) f):wpList Pg m ZN (o::rest) a w:=by
 obtain⟨i,hi,hz⟩:=OQ.1 yU;simp only[LN] at hz;obtain⟨h1,h2,h3⟩:=hz;have p:(⟨c.toArray⟩:ByteArray).size=c.length:=by simp[ByteArray.size]
 refine Lib.wpList_append_own_string w r sl x 22 9 y b 5 i IS F3 hi h1 h2 h3 v l.length (Lib.byteCells l) s n ⟨c.toArray⟩ t (by unfold maxLen;omega) (by omega) g ?_;intro j f q u _;refine h j f ?_ u;unfold Bs;rw[p] at q;have e:Lib.byteCells (l++c)=Lib.byteCells l++Lib.strCells ⟨c.toArray⟩:=by simp[Lib.byteCells,Lib.strCells]
 rw[cM,e];exact q
theorem Ea (w:M)(b:Nat)(v:ZC)(l:List UInt8)(h:Bs w b v l)(c:l≠[]):(convert 22 9 v).run Pg w=.ok (U ⟨l.toArray⟩) w:=by obtain⟨g,cap,rfl,_,_⟩:=h.av c;exact P0 w 22 9 5 (Q g 0 Y) cap l IS N5 F3 (λj f=>h.cell j f)
theorem gF{b:UInt8}(h:w.cell? (Q g 0 Y)=T (N .u8 b.toNat)):∀j (c:j < [b].length),w.cell? (((Q g 0 Y):Addr).add j)=T (N .u8 [b][j].toNat):=by
 intro j c;obtain rfl:j=0:=by simpa using c
 simpa[Addr.add] using h
def yW (w:M)(h:Nat)(c:UInt8):Prop:=∀j (hj:j<(dV c).length),w.cell? (((Q h 0 Y):Addr).add j)=T (N .u8 (dV c)[j].toNat)
theorem Eb (c:UInt8)(w:M):Calls Pg 241 #[N .u8 c.toNat] w λe b=>e=ZF (Z (T (Q (J (A w)) 0 Y)) 2 2)/\yW b (J (A w)) c/\(J (A w))<J (A b)/\Below (J (A w)) w b :=
 (AR c w).mono λ_ _ ⟨g,f,hb⟩=>⟨g,λj h=>Bs.cell (l:=dV c) f j h,(f.lt (J (A w)) rfl).2,hb⟩
set_option linter.unusedSimpArgs false in
theorem kO (s:ByteArray)(w:M)(hs:s.size<=2000):Calls Pg 189 #[U s] w λe z=>e=ZF (U ⟨(aF s.data.toList).toArray⟩)/\Below (J (A w)) w z:=by
  go_enter func189,ntmps189;go_wp2;go_loopw [3,4] (λv i wr=>∃k:Nat,k<=s.size/\i=N I k/\Bs wr (J (A w)) v (qTo s.data.toList k)/\Below (J (A w)) w wr) (λ_ i _=>s.size - (intOf i).toNat);case atStart=>exact⟨0,by omega,rfl,Bs.lit w _ [34] ly (by unfold maxLen;simp) _ rfl,br.alloc ly _⟩
  case round =>
    obtain⟨k,hk,rfl,W,S⟩:=hrel;have H:=ae S;have ZS:=ae W;have r:J (A w)<=J (A wr):=S.size;clear S W;have hql:=um s.data.toList k;obtain⟨g,cap,rfl,hg0,hg1⟩:=ZS.av (Jf _ _);by_cases X:k<s.size
    · have L:=ae (uk s k X);have hc:=s[k].toNat_lt;by_cases K:32<=(s[k].toNat:Int)/\(s[k].toNat:Int)<=126/\((s[k].toNat:Int) != 34)=ZG/\((s[k].toNat:Int) != 92)=ZG
      · obtain⟨ZP,R,V,p4⟩:=K;go_wp2_with (at_builtin;refine lp rfl _ _ rfl (J (A w)) _ (qTo s.data.toList k) rfl ?h1 (Q (J (A wr)) 0 Y) 1 [s[k]] rfl ?h2 ?h3 ?h4 ?_);case h1=>exact ZS.aa (br.alloc ly _) ly
        case h2 =>
          intro j hj;obtain rfl:j=0:=by simpa using hj
          simp[Addr.add]
        case h3=>simp only[eL,nX];omega
        case h4=>simp;omega
        intro v' z y t;have ZJ:=ae y;have G:Hid (Below (J (A w)) w z):=(H.alloc r _).grown t (by simp;omega) (λx f=>by simp[Value.ownBlock] at f;omega);clear y t;go_wp2;exact⟨⟨k+1,by omega,by go_num,by rw[L.out];unfold enc;rw[p6 (by simp[cf] at *;omega)];exact ZJ,G⟩,by simp[intOf];omega⟩
      · have hn:(s[k].toNat:Int)<32∨(32<=(s[k].toNat:Int)/\126<(s[k].toNat:Int))∨(32<=(s[k].toNat:Int)/\(s[k].toNat:Int)<=126/\((s[k].toNat:Int) != 34)=ZA)∨(32<=(s[k].toNat:Int)/\(s[k].toNat:Int)<=126/\((s[k].toNat:Int) != 34)=ZG/\((s[k].toNat:Int) != 92)=ZA):=by
          simp only[YA,ne_eq,bne_eq_false_iff_eq] at K ⊢;omega
        have HE:Hid (enc s[k]=[92]++dV s[k]):=by
          show enc s[k]=[92]++dV s[k];unfold enc;rw[gM];{rfl};{simp only[YA,ne_eq] at K;simp[cf];omega}
        clear K;rcases hn with ZP|⟨ZP,R⟩|⟨ZP,R,V⟩|⟨ZP,R,V,p4⟩
        all_goals
          go_wp2_with fail
          go_region_law (first
            | (refine gy rfl (.tmp 40) (.tmp 41) rfl (J (A w)) (Z (T (Q g 0 Y)) (qTo s.data.toList k).length cap) (qTo s.data.toList k) (by simp[Act.eval,Act.put]) ?_ (Q (J (A wr)) 0 Y) 1 [92] (by simp[Act.eval,Act.put]) ?_ ?_ ?_ ?_
               · exact ZS.aa (br.alloc ly _).drew ly
               · exact gF (by simp)
               · simp only[cM,eL,nX,dV];omega
               · first|(simp;omega)|omega
               intro ZM o b c;obtain⟨F,q,rfl,ZR,O⟩:=b.av (by simp);have u:=ae b;have m:Hid (Below (J (A w)) w o):=bg ((H.alloc r _).drew) c (by first|(simp;omega)|omega) (λx f=>by simp[Value.ownBlock] at f;omega);have ZQ:J (A w)<=J (A o):=m.size
               clear b c)
            | (refine gy rfl (.tmp 42) (.tmp 46) rfl (J (A w)) (Z (T (Q F 0 Y)) (qTo s.data.toList k++[92]).length q) (qTo s.data.toList k++[92]) (by simp[Act.eval,Act.put]) ?_ (Q (J (A o)) 0 Y) 2 (dV s[k]) (by simp[Act.eval,Act.put,dV]) ?_ ?_ ?_ ?_
               · exact u.aa h ly
               · exact ZN
               · simp only[cM,eL,nX,dV];omega
               · first|(simp;omega)|omega
               intro ZK C n l;have B:=ae n;have D:Hid (Below (J (A w)) w C):=bg (m.trans (h.mono ZQ)) l (by first|(simp;omega)|omega) (λx f=>by simp[Value.ownBlock] at f;omega)
               clear n l)
            | (refine gy rfl (.tmp 40) (.tmp 41) rfl (J (A w)) (Z (T (Q g 0 Y)) (qTo s.data.toList k).length cap) (qTo s.data.toList k) (by simp[Act.eval,Act.put]) ?_ (Q (J (A wr)) 0 Y) 1 [92] (by simp[Act.eval,Act.put]) ?_ ?_ ?_ ?_
               · exact ZS.aa ((br.alloc ly _).drew.trans (h.mono (by simp))) ly
               · exact gF ((h.cell (p:=(Q (J (A wr)) 0 Y)) (by simp)).trans (by simp))
               · simp only[cM,eL,nX,dV];omega
               · first|(simp;omega)|omega
               intro ZM o b c;obtain⟨F,q,rfl,ZR,O⟩:=b.av (by simp);have u:=ae b;have m:Hid (Below (J (A w)) w o):=bg ((H.alloc r _).drew.trans (h.mono (by simp;omega))) c (by first|(simp;omega)|omega) (λx f=>by simp[Value.ownBlock] at f;omega);have ZQ:J (A w)<=J (A o):=m.size;have E:Hid (yW o (J (A wr)+1) s[k]):=ZN.kept (c.block _ (by simpa using ZO) (by simp[Value.ownBlock];omega))
               clear b c)
            | (refine gy rfl (.tmp 40) (.tmp 41) rfl (J (A w)) (Z (T (Q g 0 Y)) (qTo s.data.toList k).length cap) (qTo s.data.toList k) (by simp[Act.eval,Act.put]) ?_ (Q (J (A wH)) 0 Y) 1 [92] (by simp[Act.eval,Act.put]) ?_ ?_ ?_ ?_
               · exact ZS.aa ((br.drew.trans h).alloc h.size _) ly
               · exact gF (by simp)
               · simp only[cM,eL,nX,dV];omega
               · first|(simp;omega)|omega
               intro ZM o b c;obtain⟨F,q,rfl,ZR,O⟩:=b.av (by simp);have u:=ae b;have m:Hid (Below (J (A w)) w o):=bg (((H.drew.trans (h.mono r)).alloc (p7 r h.size) _)) c (by first|(simp;omega)|omega) (λx f=>by simp[Value.ownBlock] at f;omega);have ZQ:J (A w)<=J (A o):=m.size;have E:Hid (yW o (J (A wr)) s[k]):=(ZN.kept (Below.heap_alloc _ _ _ ZO)).kept (c.block _ (by simp;omega) (by simp[Value.ownBlock];omega))
               clear b c)
            | (refine gy rfl (.tmp 42) (.tmp 46) rfl (J (A w)) (Z (T (Q F 0 Y)) (qTo s.data.toList k++[92]).length q) (qTo s.data.toList k++[92]) (by simp[Act.eval,Act.put]) ?_ (Q (J (A wr)+1) 0 Y) 2 (dV s[k]) (by simp[Act.eval,Act.put,dV]) ?_ ?_ ?_ ?_
               · exact u
               · exact E
               · simp only[cM,eL,nX,dV];omega
               · first|(simp;omega)|omega
               intro ZK C n l;have B:=ae n;have D:Hid (Below (J (A w)) w C):=bg (m) l (by first|(simp;omega)|omega) (λx f=>by simp[Value.ownBlock] at f;omega)
               clear n l)
            | (refine gy rfl (.tmp 42) (.tmp 46) rfl (J (A w)) (Z (T (Q F 0 Y)) (qTo s.data.toList k++[92]).length q) (qTo s.data.toList k++[92]) (by simp[Act.eval,Act.put]) ?_ (Q (J (A wr)) 0 Y) 2 (dV s[k]) (by simp[Act.eval,Act.put,dV]) ?_ ?_ ?_ ?_
               · exact u
               · exact E
               · simp only[cM,eL,nX,dV];omega
               · first|(simp;omega)|omega
               intro ZK C n l;have B:=ae n;have D:Hid (Below (J (A w)) w C):=bg (m) l (by first|(simp;omega)|omega) (λx f=>by simp[Value.ownBlock] at f;omega)
               clear n l)
            |(go_simp;go_at_call 241;refine(Eb _ _).mono ?_;rintro e wH ⟨rfl,hH,ZO,P⟩;have ZN:=ae hH;have h:=ae P;clear hH P))
          all_goals
            go_wp2;exact⟨⟨k+1,by omega,by go_num,by rw[L.out,HE.out,<-OV];exact B,D⟩,by simp[intOf];omega⟩
    · have e:k=s.size:=by omega
      subst e;have L:Hid (aF s.data.toList=qTo s.data.toList s.size++[34]):=by
        show aF s.data.toList=qTo s.data.toList s.size++[34]
        unfold aF;simp
      go_wp2_with (at_builtin;refine lp rfl _ _ rfl (J (A w)) _ (qTo s.data.toList s.size) rfl ?h1 (Q (J (A wr)) 0 Y) 1 [34] rfl ?h2 ?h3 ?h4 ?_);case h1=>exact ZS.aa (br.alloc ly _) ly
      case h2=>exact gF (by simp)
      case h3=>simp only[eL,nX];omega
      case h4=>simp;omega
      intro v' z y t;have G:Hid (Below (J (A w)) w z):=(H.alloc r _).grown t (by simp;omega) (λx f=>by simp[Value.ownBlock] at f;omega);have ZL:=Ea z _ v' _ y (by simp);rw[<-L.out] at ZL;clear y t;go_wp2;go_ret;exact⟨rfl,G⟩
theorem yX (s:ByteArray)(w:M)(h:s.size<=2000):Calls Pg 190 #[ZH #[N I 1,U s,N I 0]] w λe c=>e=ZF (U ⟨(aR 1 s.data.toList 0).toArray⟩)/\Below (J (A w)) w c:=by
 have f:=ep s.data.toList;have b:s.data.toList.length=s.size:=by simp
 rw[b] at f;clear b;go_enter func190,ntmps190;go_wp2_with (first|(go_at_call 189;refine(kO _ _ h).mono ?_;rintro e c ⟨rfl,g⟩)|go_in);all_goals go_ret
 refine⟨fP ?_,(br.alloc ly _).trans (g.mono (by simp))⟩;apply ON;simp[aR,kind,word]
theorem yY (op:Int)(m:Nat)(w:M)(c:op=3∨op=4∨op=5∨op=10∨op=11)(f:m<=2000):Calls Pg 190 #[ZH #[N I op,U ⟨#[]⟩,N I m]] w λe b=>e=ZF (U ⟨(aR op [] m).toArray⟩)/\Below (J (A w)) w b:=by
 have hq:=nQ m f;rcases c with rfl|rfl|rfl|rfl|rfl;all_goals
  go_enter func190,ntmps190;go_wp2_with (first|(go_at_call 104;refine(gE m (by omega) _).mono ?_;rintro e b ⟨rfl,g⟩)|go_in);all_goals go_ret
  refine⟨fP ?_,(br.alloc ly _).trans (g.mono (by simp))⟩;apply ON;simp[aR,kind,word]
theorem wP (op:Int)(w:M)(b:op=2∨op=6∨op=7∨op=8∨op=9∨op=12∨op=13∨op=14∨op=15):Calls Pg 190 #[ZH #[N I op,U ⟨#[]⟩,N I 0]] w λe c=>e=ZF (U ⟨(aR op [] 0).toArray⟩)/\Below (J (A w)) w c:=by
 rcases b with rfl|rfl|rfl|rfl|rfl|rfl|rfl|rfl|rfl;all_goals
  go_enter func190,ntmps190;go_wp2;go_ret;exact⟨rfl,br.alloc ly _⟩
theorem jw (op:Int)(s:ByteArray)(n:Int)(w:M)(h:aH op s.size n=ZG):Calls Pg 190 #[ZH #[N I op,U s,N I n]] w λe f=>e=ZF (U ⟨(aR op s.data.toList n).toArray⟩)/\Below (J (A w)) w f:=by
 rcases iT h with ⟨rfl,c,rfl⟩|⟨b,rfl,m,rfl,g⟩|⟨b,rfl,rfl⟩
 {exact yX s w c};{exact yY op m w b g};{exact wP op w b}
def bR (z:Nat):Nat->List UInt8
 |0=>[]
 |k+1=>cO (z / 16 ^ k % 16)::bR z k
theorem fK (z k:Nat):(bR z k).length=k:=by
 induction k with
 |zero=>rfl
 |succ k b=>simp[bR,b]
theorem GY (k:Nat)(h:k<16)(w:M):(Instr.index 9 (U ⟨#[48,49,50,51,52,53,54,55,56,57,97,98,99,100,101,102]⟩) (N .u64 (k:Int))).run Pg w=.ok (N .u8 (cO k).toNat) w:=by rcases(show k=0∨k=1∨k=2∨k=3∨k=4∨k=5∨k=6∨k=7∨k=8∨k=9∨k=10∨k=11∨k=12∨k=13∨k=14∨k=15 by omega) with rfl|rfl|rfl|rfl|rfl|rfl|rfl|rfl|rfl|rfl|rfl|rfl|rfl|rfl|rfl|rfl;all_goals kernel_rfl
theorem uq (s:ByteArray)(w:M)(hs:(s.size:Int)<=1048576):Calls Pg 77 #[U s] w λe S=>e=ZF (U ⟨(bR (sumTo s s.size).toNat 16).toArray⟩)/\Below (J (A w)) w S:=by
 obtain⟨ZM,x⟩:∃ZM,ZM=bR (sumTo s s.size).toNat 16:=⟨_,rfl⟩
 rw[<-x];have R:=ae x;clear x;go_enter func77,ntmps77;go_wp2;go_loop [3,4] (λc i=>∃(k:Nat) (z:Int),k<=s.size/\0<=z/\z<=18446744073709551615/\Hid (z=sumTo s k)/\c=N .u64 z/\i=N I k) (λ_ i=>s.size - (intOf i).toNat);case atStart=>exact⟨0,14695981039346656037,by omega,by omega,by omega,rfl,rfl,rfl⟩
 case round =>
  obtain⟨k,z,X,E,G,p,rfl,rfl⟩:=hrel;by_cases n:k<s.size
  ·have O:Hid (IntKind.u64.wrap (bits BinOp.xor IntKind.u64 z (IntKind.u64.wrap (s[k].toNat:Int))*1099511628211)=sumTo s (k+1)):=by show _=_;rw[p.out];exact(pO s k n).symm
   have y:=ae (lL s (k+1));go_wp2;rw[O.out];exact⟨⟨k+1,_,by omega,y.1,y.2,rfl,rfl,by go_num⟩,by simp[intOf];omega⟩
  ·obtain rfl:k=s.size:=by omega
   obtain⟨ZO,D⟩:∃ZO:Nat,z=(ZO:Int):=⟨z.toNat,by omega⟩
   have K:Hid ((sumTo s s.size).toNat=ZO):=by show _=_;rw[<-p.out,D];rfl
   have ZQ:Hid (ZM=bR ZO 16):=by show _=_;rw[R.out,K.out]
   subst D;have ZR:ZO<=18446744073709551615:=by omega
   clear p K E G;go_wp2;go_loopw [3,5,6] (λc v i wr=>∃(k q g f:Nat),k<=16/\Hid (q=ZO / 16 ^ k)/\q<=18446744073709551615/\c=N .u64 q/\v=Z (T (Q g 0 Y)) k f/\i=N I k/\Hid (Bs wr (J (A w)) (Z (T (Q g 0 Y)) k f) (bR ZO k))/\Hid (Below (J (A w)) w wr)) (λ_ _ i _=>16 - (intOf i).toNat);case atStart=>exact⟨0,ZO,J (A w),0,by omega,by show _=_;simp,ZR,rfl,rfl,rfl,Bs.lit w _ [] ly (by simp) _ rfl,br.alloc ly _⟩
   case round =>
    obtain⟨k,q,g,f,X,B,hqb,rfl,rfl,rfl,L,u⟩:=hrel;have ZP:J (A w)<=J (A wr):=u.size;by_cases n:k<16
    ·obtain⟨d,H⟩:∃d:Nat,d=q % 16:=⟨_,rfl⟩
     obtain⟨e,C⟩:∃e:Nat,e=q / 16:=⟨_,rfl⟩
     have o:d<16:=by omega
     have hix:=GY d o;have hm1:(q:Int).tmod 16=(d:Int):=by rw[QV (by omega)];omega
     have hd1:(q:Int).tdiv 16=(e:Int):=by rw[Int.tdiv_eq_ediv_of_nonneg (by omega)];omega
     have ZL:Hid (bR ZO (k+1)=cO d::bR ZO k):=by show _=_;rw[bR,<-B.out,<-H]
     have ZN:Hid (e=ZO / 16 ^ (k+1)):=by show _=_;rw[C,B.out,Nat.div_div_eq_div_mul,Nat.pow_succ]
     have F:e<=18446744073709551615:=by omega
     have b:=fK ZO k;clear H C;go_wp2_with (at_builtin;refine lp rfl _ _ rfl (J (A w)) _ [cO d] rfl ?h1 (Q g 0 Y) f (bR ZO k) (by rw[b];rfl) ?h2 ?h3 ?h4 ?_);case h1=>exact Bs.lit wr _ [cO d] ZP (by simp[maxLen]) _ (by simp[Lib.byteCells])
     case h2=>exact λj r=>L.aa ((q9 wr).alloc ly _) ly |>.cell j r
     case h3=>simp only[eL,nX,b];omega
     case h4=>simp;omega
     intro v8 w8 l m;obtain⟨ZJ,W,rfl,_,_⟩:=l.av (by simp);have ZK:=ae l;have V:=ae (bg (u.alloc ZP _) m (by simp;omega) (λj e=>by simp[Value.ownBlock] at e;omega));clear l m;go_wp2;refine⟨⟨k+1,e,ZJ,W,by omega,ZN,F,rfl,?_,by go_num,?_,V⟩,by simp[intOf];omega⟩
     ·have t:(cO d::bR ZO k).length=k+1:=by simp[b]
      rw[t]
     ·have h:=ZK.out;have t:(cO d::bR ZO k).length=k+1:=by simp[b]
      rw[t] at h;show Bs _ _ _ _;rw[ZL.out];exact h
    ·obtain rfl:k=16:=by omega
     have ZS:(convert 22 9 (Z (T (Q g 0 Y)) 16 f)).run Pg wr=.ok (U ⟨(bR ZO 16).toArray⟩) wr:=by have h:=P0 (P:=Pg) wr 22 9 5 (Q g 0 Y) f (bR ZO 16) IS N5 F3 (λj r=>L.cell j r);rw[fK] at h;exact h
     rw[<-ZQ.out] at ZS;go_wp2;go_ret;exact⟨rfl,u⟩
