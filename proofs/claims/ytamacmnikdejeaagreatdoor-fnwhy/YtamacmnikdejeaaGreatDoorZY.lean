import Derived.Test.YtamacmnikdejeaaGreatDoorZW
import Derived.Test.YtamacmnikdejeaaGreatDoorZC
open Go.Addr renaming mk->T
open Go.Value renaming slice->Y,string->U,int->I
open Option renaming none->Z,some->N
open Go.Obj renaming cells->Q
open Go.IntKind renaming i64->J
open Go renaming World->H,Value->QS
open Bool renaming false->QQ
namespace Go.Proofs.YtamacmnikdejeaaGreatDoor.Vp
open RowKit Ca
def dV (x:Link):List QS:=[U x.name,.bool x.ask,.bool x.has,I J x.at_]
def bZ (f:Nat->Link)(n:Nat):List QS:=((List.range n).map f).flatMap dV
theorem iK (f:Nat->Link)(n:Nat):(bZ f n).length=n*4:=by rw[bZ,fh dV 4 (fun _=>rfl)];simp
theorem jA (f:Nat->Link){n i:Nat}(hi:i<n)(j:Nat)(b:j<4):(bZ f n)[i*4+j]?=(dV (f i))[j]? :=
 cW dV 4 (fun _=>rfl) _ i j b (f i) (by simp[hi])
theorem zm (f:Nat->Link)(n:Nat):∀ u∈bZ f n,u.oneCell'=true:=by intro u b;simp only[bZ,LN,dV] at b;obtain⟨x,_,c⟩:=b;simp at c;rcases c with rfl | rfl | rfl | rfl<;>simp[Value.oneCell']
theorem Bg {w:H}{b off n:Nat}{f:Nat->Link}(h:RowLink w b off n f):∀ j u,(bZ f n)[j]?=N u->w.cell? (((T b off Z):Addr).add j)=N u:=by
 intro j u c;have hl:j<n*4:=by have:=(gM.1 c).1;rwa[iK] at this
 have e:j=j / 4*4+j % 4:=by omega
 have hi:j / 4<n:=by omega
 obtain⟨m,h1,h2,i⟩:=h.2 (j / 4) hi;have l:j % 4<4:=NO _ (by omega);rw[e,jA f hi (j % 4) l] at c;have g:((T b off Z):Addr).add j=(T b (off+j) Z):=addr_add _ _ _;rw[g];rcases(show j % 4=0∨j % 4=1∨j % 4=2∨j % 4=3 by omega) with q | q | q | q;all_goals rw[q] at c;simp[dV] at c;subst c
 ·rw[show off+j=off+j / 4*4 by omega];exact m
 ·rw[show off+j=off+j / 4*4+1 by omega];exact h1
 ·rw[show off+j=off+j / 4*4+2 by omega];exact h2
 ·rw[show off+j=off+j / 4*4+3 by omega];exact i
theorem ez {w i:H}{b size n:Nat}{e:TypeId}{v:QS}{l:List QS}(h:w.ownsRow b e size v n l)(hb:∀ k,v.ownBlock=N k->OfTy w k e->i.heap[k]?=w.heap[k]?):i.ownsRow b e size v n l:=by
 refine⟨h.1,?_⟩;rcases h.2 with hn | ⟨g,cap,c,rfl,j,f,rest⟩
 ·exact .inl hn
 ·exact .inr ⟨g,cap,c,rfl,j,(hb g rfl ⟨c,_,f⟩).trans f,rest⟩
theorem fO {w:H}{c size n:Nat}{e:TypeId}{v:QS}{j:List QS}(h:w.ownsRow c e size v n j):∀ k,v.ownBlock=N k->OfTy w k e:=by
 intro k b;rcases h.2 with ⟨rfl,_⟩ | ⟨g,cap,f,rfl,_,i,_⟩
 ·simp[Value.ownBlock] at b
 ·simp[Value.ownBlock] at b
  subst b;exact⟨f,_,i⟩
theorem d9 {w:H}{b size n:Nat}{e:TypeId}{v:QS}{f:List QS}(h:w.ownsRow b e size v n f)(hn:0<n):∃ g cap,v=Y (N (T g 0 Z)) n cap:=by
 rcases h.2 with ⟨_,h2⟩ | ⟨g,c,cur,h1,_⟩
 ·omega
 ·exact⟨g,c,h1⟩
theorem lD {w:H}{b size n:Nat}{e:TypeId}{v:QS}{f:List QS}(h:w.ownsRow b e size v n f):∃ a cap,v=Y a n cap:=by
 rcases h.2 with ⟨h1,h2⟩ | ⟨g,c,cur,h1,_⟩
 ·exact⟨Z,0,by rw[h1,h2]⟩
 ·exact⟨_,_,h1⟩
abbrev DR:=aj × QS × QS
def ddV (r:DR):List QS:=[U r.1.name,I J r.1.kind,I J r.1.code,U r.1.text,r.2.1,r.2.2]
structure DSub (w:H)(base:Nat)(r:DR):Prop where
 act:w.ownsRow base 146 3 r.2.1 r.1.actN (cF r.1.act r.1.actN)
 lnk:w.ownsRow base 129 4 r.2.2 r.1.linksN (bZ r.1.links r.1.linksN)
def Apt (a b:QS):Prop:=a.ownBlock=Z∨a.ownBlock≠b.ownBlock
structure DRow (w:H)(base:Nat)(v:QS)(R:List DR):Prop where
 own:w.ownsRow base 46 6 v R.length (R.flatMap ddV)
 sub:∀ r∈R,DSub w base r
 up:R.Pairwise fun a b=>Apt a.2.1 b.2.1/\Apt a.2.2 b.2.2
theorem DSub.blk {w w':H}{b:Nat}{r:DR}(h:DSub w b r)(hb:∀ k,OfTy w k 146∨OfTy w k 129->b<=k->w'.heap[k]?=w.heap[k]?):DSub w' b r :=
 ⟨ez h.act fun k c f=>hb k (.inl f) (h.act.lt k c).1,ez h.lnk fun k c f=>hb k (.inr f) (h.lnk.lt k c).1⟩
theorem DSub.below {w f:H}{b B:Nat}{r:DR}(h:DSub w b r)(hb:Below B w f)(c:w.heap.size<=B):DSub f b r:=⟨own_below h.act hb c,own_below h.lnk hb c⟩
theorem DSub.mono {w:H}{b base':Nat}{r:DR}(h:DSub w b r)(hb:base'<=b):DSub w base' r:=⟨aE h.act hb,aE h.lnk hb⟩
theorem DRow.blk {w w':H}{b:Nat}{v:QS}{R:List DR}(h:DRow w b v R)(hb:∀ k,OfTy w k 146∨OfTy w k 129∨OfTy w k 46->b<=k->w'.heap[k]?=w.heap[k]?):DRow w' b v R :=
 ⟨ez h.own fun k c g=>hb k (.inr (.inr g)) (h.own.lt k c).1,fun r f=>(h.sub r f).blk fun k c=>hb k (c.imp id .inl),h.up⟩
theorem DRow.below {w f:H}{b B:Nat}{v:QS}{R:List DR}(h:DRow w b v R)(hb:Below B w f)(c:w.heap.size<=B):DRow f b v R :=
 ⟨own_below h.own hb c,fun r g=>(h.sub r g).below hb c,h.up⟩
theorem DRow.mono {w:H}{b base':Nat}{v:QS}{R:List DR}(h:DRow w b v R)(hb:base'<=b):DRow w base' v R:=⟨aE h.own hb,fun r c=>(h.sub r c).mono hb,h.up⟩
theorem DRow.set {w:H}{c:Nat}{v:QS}{R:List DR}(h:DRow w c v R){p:Addr}{e:TypeId}(g:p.block<c∨(OfTy w p.block e/\e≠146/\e≠129/\e≠46))(u:QS):DRow (w.setCell p u) c v R :=
 h.blk fun k b hb=>qh _ _ _ _ (fun x=>by
  subst x;rcases g with g | ⟨f,h1,h2,i⟩
  ·omega
  ·rcases b with b | b | b
   ·exact f.ne (Ne.symm h1) b
   ·exact f.ne (Ne.symm h2) b
   ·exact f.ne (Ne.symm i) b)
theorem ig (w:H)(b:Nat):DRow w b (Y Z 0 0) []:=⟨CP _ _ _ _,fun r c=>absurd c (by simp),List.Pairwise.nil⟩
theorem DRow.more {w g m:H}{i:Nat}{v u:QS}{R:List DR}{r:DR}(h:DRow w i v R)(h1:DRow g i v R)(l:i<=w.heap.size)(p:DSub g w.heap.size r)
  (o:m.ownsRow i 46 6 u (R.length+1) (R.flatMap ddV++ddV r)) (A:g.grownBy m v.ownBlock):DRow m i u (R++[r]):=by
 have t:∀ k,OfTy g k 146∨OfTy g k 129->N k≠v.ownBlock:=fun k f e=>by
  have s:=fO h1.own k e.symm;rcases f with f | f
  ·exact s.ne (by decide) f
  ·exact s.ne (by decide) f
 have y:∀ k,OfTy g k 146∨OfTy g k 129->k<g.heap.size:=fun k f=>by rcases f with ⟨c,z,f⟩ | ⟨c,z,f⟩<;>exact(nX.1 f).1
 have keep:∀ k,OfTy g k 146∨OfTy g k 129->m.heap[k]?=g.heap[k]?:=fun k f=>A.block k (y k f) (t k f);refine⟨by simpa using o,fun x j=>?_,?_⟩
 ·rcases hU.1 j with j | j
  ·exact(h1.sub x j).blk fun k f _=>keep k f
  ·simp at j
   subst j;exact(p.blk fun k f _=>keep k f).mono l
 ·rw[KT]
  refine⟨h.up,by simp,fun a B b n=>?_⟩;simp at n;subst n;have q:=h.sub a B;refine⟨?_,?_⟩
  ·cases f:a.2.1.ownBlock with
   | none=>exact .inl f
   | some k =>refine .inr fun e=>?_;have h1:=(q.act.lt k f).2;have h2:=(p.act.lt k (e ▸ f)).1;omega
  ·cases f:a.2.2.ownBlock with
   | none=>exact .inl f
   | some k =>refine .inr fun e=>?_;have h1:=(q.lnk.lt k f).2;have h2:=(p.lnk.lt k (e ▸ f)).1;omega
theorem Bh {w:H}{b n g cap:Nat}{f:Nat->Link}(h:w.ownsRow b 129 4 (Y (N (T g 0 Z)) n cap) n (bZ f n)):RowLink w g 0 n f:=by
 refine⟨(dq h).2,fun i hi=>?_⟩;have c:∀ j,j<4->∀ u,(dV (f i))[j]?=N u->w.cell? (T g (0+i*4+j) Z)=N u:=fun j m u l=>by have:=(bB h (j:=i*4+j) (u:=u) (by rw[jA f hi j m];exact l)).1;rwa[show 0+i*4+j=i*4+j by omega]
 exact⟨c 0 (by omega) _ rfl,c 1 (by omega) _ rfl,c 2 (by omega) _ rfl,c 3 (by omega) _ rfl⟩
theorem DSub.ins {w:H}{f:Nat}{r:DR}(h:DSub w f r):∃ a cap,r.2.1=Y a r.1.actN cap/\SlIns w a r.1.actN r.1.act:=by
 obtain⟨a,cap,e⟩:=lD h.act;refine⟨a,cap,e,?_⟩;by_cases hz:r.1.actN=0
 ·exact .inl hz
 ·obtain⟨g,c,b⟩:=d9 h.act (by omega)
  have i:=h.act;rw[b] at i;rw[e] at b;cases b
  exact .inr ⟨g,0,rfl,(kM i).1⟩
theorem DSub.links {w:H}{f:Nat}{r:DR}(h:DSub w f r):∃ a cap,r.2.2=Y a r.1.linksN cap/\SlLink w a r.1.linksN r.1.links:=by
 obtain⟨a,cap,e⟩:=lD h.lnk;refine⟨a,cap,e,?_⟩;by_cases hz:r.1.linksN=0
 ·exact .inl hz
 ·obtain⟨g,c,b⟩:=d9 h.lnk (by omega)
  have i:=h.lnk;rw[b] at i;rw[e] at b;cases b
  exact .inr ⟨g,0,rfl,Bh i⟩
theorem dI {R:List DR}{i:Nat}(hi:i<R.length):∃ r,R[i]?=N r/\r∈R:=⟨R[i],gq hi,gj hi⟩
theorem iF {R:List DR}{i:Nat}{r:DR}(h:R[i]?=N r):dF (R.map (·.1)) i=r.1:=by unfold dF;rw[BO,IN,h];rfl
theorem iL {w:H}{b g cap:Nat}{R:List DR}(h:w.ownsRow b 46 6 (Y (N (T g 0 Z)) R.length cap) R.length (R.flatMap ddV)){i:Nat}{r:DR}(f:R[i]?=N r)(j:Nat)(l:j<6){u:QS}(c:(ddV r)[j]?=N u):w.cell? (T g (i*6+j) Z)=N u/\w.frozen? (T g (i*6+j) Z)=QQ :=
 bB h (j:=i*6+j) (u:=u) (by rw[cW ddV 6 (fun _=>rfl) R i j l r f];exact c)
theorem DRow.deeds {w:H}{b c:Nat}{a:Option Addr}{R:List DR}(h:DRow w b (Y a R.length c) R):SlDeed w a R.length (dF (R.map (·.1))):=by
 by_cases hz:R.length=0
 ·exact .inl hz
 ·obtain⟨g,c',e⟩:=d9 h.own (by omega)
  cases e
  refine .inr ⟨g,0,rfl,(dq h.own).2,fun i hi=>?_⟩;obtain⟨r,l,f⟩:=dI hi;rw[iF l];have c:∀ j,j<6->∀ u,(ddV r)[j]?=N u->w.cell? (T g (0+i*6+j) Z)=N u:=fun j x u q=>by rw[show 0+i*6+j=i*6+j by omega];exact(iL h.own l j x q).1
  obtain⟨m,c4,n,s⟩:=(h.sub r f).ins;obtain⟨p,c5,t,o⟩:=(h.sub r f).links;exact⟨c 0 (by omega) _ rfl,c 1 (by omega) _ rfl,c 2 (by omega) _ rfl,c 3 (by omega) _ rfl,⟨m,c4,by rw[<-n];exact c 4 (by omega) _ rfl,s⟩,⟨p,c5,by rw[<-t];exact c 5 (by omega) _ rfl,o⟩⟩
def rAt (R:List DR)(i:Nat):DR:=R.getD i (fq,Y Z 0 0,Y Z 0 0)
def ra (R:List DR)(i:Nat):Nat:=(rAt R i).1.actN
def rl (R:List DR)(i:Nat):Nat:=(rAt R i).1.linksN
structure CpB (W:H)(h:Nat)(v vo:QS):Prop where
 size:h+3<=W.heap.size
 a:W.cell? (T h 0 Z)=N v
 r:W.cell? (T (h+1) 0 Z)=N (Y Z 0 0)/\W.frozen? (T (h+1) 0 Z)=QQ
 o:W.cell? (T (h+2) 0 Z)=N vo/\W.frozen? (T (h+2) 0 Z)=QQ
theorem s8 (W:H)(v:QS)(t:TypeId):(W.alloc (Q #[v] t)).cell? (T W.heap.size 0 Z)=N v/\(W.alloc (Q #[v] t)).frozen? (T W.heap.size 0 Z)=QQ:=by constructor<;>simp
theorem FH (w:H)(v:QS)(b:TypeId):CpB (((w.alloc (Q #[v] b)).alloc (Q #[Y Z 0 0] b)).alloc (Q #[Y Z 0 0] b)) w.heap.size v (Y Z 0 0):=by
 obtain⟨c,m⟩:∃ c,w.alloc (Q #[v] b)=c:=⟨_,rfl⟩
 obtain⟨f,i⟩:∃ f,c.alloc (Q #[Y Z 0 0] b)=f:=⟨_,rfl⟩
 obtain⟨h,j⟩:∃ h,f.alloc (Q #[Y Z 0 0] b)=h:=⟨_,rfl⟩
 rw[m,i,j];have z1:c.heap.size=w.heap.size+1:=by rw[<-m];simp
 have z2:f.heap.size=w.heap.size+2:=by rw[<-i];simp;omega
 have z3:h.heap.size=w.heap.size+3:=by rw[<-j];simp;omega
 have g:Below f.heap.size f h:=by rw[<-j];exact br.alloc ly _
 have n:Below c.heap.size c h:=(by rw[<-i];exact br.alloc ly _:Below c.heap.size c f).trans (g.mono (by omega));have n1:=s8 w v b;have l:=s8 c (Y Z 0 0) b;have o:=s8 f (Y Z 0 0) b;rw[m] at n1;rw[i,z1] at l;rw[j,z2] at o;exact⟨by omega,(n.cell (p:=(T w.heap.size 0 Z)) (by show w.heap.size<_;omega)).trans n1.1,⟨(g.cell (p:=(T (w.heap.size+1) 0 Z)) (by show w.heap.size+1<_;omega)).trans l.1,(g.frozen (p:=(T (w.heap.size+1) 0 Z)) (by show w.heap.size+1<_;omega)).trans l.2⟩,o⟩
theorem CpB.below {W g:H}{h B:Nat}{v j:QS}(b:CpB W h v j)(hb:Below B W g)(hB:h+3<=B):CpB g h v j:=by have c:∀ k o,k<B->g.cell? (T k o Z)=W.cell? (T k o Z):=fun k o i=>hb.cell (p:=(T k o Z)) i;have f:∀ k o,k<B->g.frozen? (T k o Z)=W.frozen? (T k o Z):=fun k o i=>hb.frozen (p:=(T k o Z)) i;exact⟨j4 b.size hb.size,(c _ _ (by omega)).trans b.a,⟨(c _ _ (by omega)).trans b.r.1,(f _ _ (by omega)).trans b.r.2⟩,⟨(c _ _ (by omega)).trans b.o.1,(f _ _ (by omega)).trans b.o.2⟩⟩
theorem CpB.out {W:H}{h:Nat}{v g:QS}(b:CpB W h v g)(u:QS):CpB (W.setCell (T (h+2) 0 Z) u) h v u:=by have c:∀ k o,k≠h+2->(W.setCell (T (h+2) 0 Z) u).cell? (T k o Z)=W.cell? (T k o Z):=fun k o f=>cell_far _ _ _ _ (by simpa using fun e=>f e.symm);exact⟨by simpa using b.size,(c _ _ (by omega)).trans b.a,⟨(c _ _ (by omega)).trans b.r.1,by simpa using b.r.2⟩,⟨p7 _ _ _ (by rw[b.o.1];rfl),by simpa using b.o.2⟩⟩
theorem FJ (w:H)(i l g f c m:QS)(t:TypeId):∀ j u,[i,l,g,f,c,m][j]?=N u->(w.alloc (Q #[i,l,g,f,c,m] t)).cell? (((T w.heap.size 0 Z):Addr).add j)=N u:=by
 intro j u b;have hj:j<6:=by have:=(gM.1 b).1;simpa using this
 have h:=oz w i l g f c m t;rw[addr_add,DN];rcases(show j=0∨j=1∨j=2∨j=3∨j=4∨j=5 by omega) with rfl | rfl | rfl | rfl | rfl | rfl;all_goals simp only[OH,MY,JL] at b;subst b
 ·exact h.c0.1
 ·exact h.c1.1
 ·exact h.c2.1
 ·exact h.c3.1
 ·exact h.c4.1
 ·exact h.c5.1
end Go.Proofs.YtamacmnikdejeaaGreatDoor.Vp
