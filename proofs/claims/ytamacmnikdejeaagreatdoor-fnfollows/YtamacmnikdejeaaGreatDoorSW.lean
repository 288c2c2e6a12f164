import Derived.Test.YtamacmnikdejeaaGreatDoorSU
import Derived.Test.YtamacmnikdejeaaGreatDoorSC
open Go.Addr renaming mk->N
open Go.Value renaming slice->Y,string->U,int->J
open Option renaming none->Z,some->T
open Go.Obj renaming cells->Q
open Go.IntKind renaming i64->I
open Go renaming World->G,Value->QE
open Bool renaming false->QB
namespace Go.Proofs.YtamacmnikdejeaaGreatDoor.Vp
open RowKit Ca
def dE (x:Link):List QE:=[U x.name,.bool x.ask,.bool x.has,J I x.at_]
def bV (f:Nat->Link)(n:Nat):List QE:=((List.range n).map f).flatMap dE
theorem gV (f:Nat->Link)(n:Nat):(bV f n).length=n*4:=by rw[bV,eP dE 4 (fun _=>rfl)];simp
theorem i8 (f:Nat->Link){n i:Nat}(hi:i<n)(j:Nat)(b:j<4):(bV f n)[i*4+j]?=(dE (f i))[j]? :=
 cK dE 4 (fun _=>rfl) _ i j b (f i) (by simp[hi])
theorem xX (f:Nat->Link)(n:Nat):∀ u∈bV f n,u.oneCell'=true:=by intro u g;simp only[bV,JV,dE] at g;obtain⟨x,_,b⟩:=g;simp at b;rcases b with rfl | rfl | rfl | rfl<;>simp[Value.oneCell']
theorem zG {w:G}{b off n:Nat}{f:Nat->Link}(h:RowLink w b off n f):∀ j u,(bV f n)[j]?=T u->w.cell? (((N b off Z):Addr).add j)=T u:=by
 intro j u g;have hl:j<n*4:=by have:=(j2.1 g).1;rwa[gV] at this
 have e:j=j / 4*4+j % 4:=by omega
 have hi:j / 4<n:=by omega
 obtain⟨l,h1,h2,m⟩:=h.2 (j / 4) hi;have i:j % 4<4:=LH _ (by omega);rw[e,i8 f hi (j % 4) i] at g;have o:((N b off Z):Addr).add j=(N b (off+j) Z):=addr_add _ _ _;rw[o];rcases(show j % 4=0∨j % 4=1∨j % 4=2∨j % 4=3 by omega) with q | q | q | q;all_goals rw[q] at g;simp[dE] at g;subst g
 ·rw[show off+j=off+j / 4*4 by omega];exact l
 ·rw[show off+j=off+j / 4*4+1 by omega];exact h1
 ·rw[show off+j=off+j / 4*4+2 by omega];exact h2
 ·rw[show off+j=off+j / 4*4+3 by omega];exact m
theorem dL {w m:G}{b size n:Nat}{e:TypeId}{v:QE}{l:List QE}(h:w.ownsRow b e size v n l)(hb:∀ k,v.ownBlock=T k->OfTy w k e->m.heap[k]?=w.heap[k]?):m.ownsRow b e size v n l:=by
 refine⟨h.1,?_⟩;rcases h.2 with hn | ⟨g,cap,i,rfl,j,f,rest⟩
 ·exact .inl hn
 ·exact .inr ⟨g,cap,i,rfl,j,(hb g rfl ⟨i,_,f⟩).trans f,rest⟩
theorem fh {w:G}{f size n:Nat}{e:TypeId}{v:QE}{j:List QE}(h:w.ownsRow f e size v n j):∀ k,v.ownBlock=T k->OfTy w k e:=by
 intro k b;rcases h.2 with ⟨rfl,_⟩ | ⟨g,cap,i,rfl,_,l,_⟩
 ·simp[Value.ownBlock] at b
 ·simp[Value.ownBlock] at b
  subst b;exact⟨i,_,l⟩
theorem dr {w:G}{b size n:Nat}{e:TypeId}{v:QE}{f:List QE}(h:w.ownsRow b e size v n f)(hn:0<n):∃ g cap,v=Y (T (N g 0 Z)) n cap:=by
 rcases h.2 with ⟨_,h2⟩ | ⟨g,c,cur,h1,_⟩
 ·omega
 ·exact⟨g,c,h1⟩
theorem kE {w:G}{b size n:Nat}{e:TypeId}{v:QE}{f:List QE}(h:w.ownsRow b e size v n f):∃ a cap,v=Y a n cap:=by
 rcases h.2 with ⟨h1,h2⟩ | ⟨g,c,cur,h1,_⟩
 ·exact⟨Z,0,by rw[h1,h2]⟩
 ·exact⟨_,_,h1⟩
abbrev DR:=ah × QE × QE
def ddV (r:DR):List QE:=[U r.1.name,J I r.1.kind,J I r.1.code,U r.1.text,r.2.1,r.2.2]
structure DSub (w:G)(base:Nat)(r:DR):Prop where
 act:w.ownsRow base 146 3 r.2.1 r.1.actN (ct r.1.act r.1.actN)
 lnk:w.ownsRow base 129 4 r.2.2 r.1.linksN (bV r.1.links r.1.linksN)
def Apt (a b:QE):Prop:=a.ownBlock=Z∨a.ownBlock≠b.ownBlock
structure DRow (w:G)(base:Nat)(v:QE)(R:List DR):Prop where
 own:w.ownsRow base 46 6 v R.length (R.flatMap ddV)
 sub:∀ r∈R,DSub w base r
 up:R.Pairwise fun a b=>Apt a.2.1 b.2.1/\Apt a.2.2 b.2.2
theorem DSub.blk {w w':G}{b:Nat}{r:DR}(h:DSub w b r)(hb:∀ k,OfTy w k 146∨OfTy w k 129->b<=k->w'.heap[k]?=w.heap[k]?):DSub w' b r :=
 ⟨dL h.act fun k f g=>hb k (.inl g) (h.act.lt k f).1,dL h.lnk fun k f g=>hb k (.inr g) (h.lnk.lt k f).1⟩
theorem DSub.below {w g:G}{b B:Nat}{r:DR}(h:DSub w b r)(hb:Below B w g)(f:w.heap.size<=B):DSub g b r:=⟨own_below h.act hb f,own_below h.lnk hb f⟩
theorem DSub.mono {w:G}{b base':Nat}{r:DR}(h:DSub w b r)(hb:base'<=b):DSub w base' r:=⟨aE h.act hb,aE h.lnk hb⟩
theorem DRow.blk {w w':G}{b:Nat}{v:QE}{R:List DR}(h:DRow w b v R)(hb:∀ k,OfTy w k 146∨OfTy w k 129∨OfTy w k 46->b<=k->w'.heap[k]?=w.heap[k]?):DRow w' b v R :=
 ⟨dL h.own fun k f i=>hb k (.inr (.inr i)) (h.own.lt k f).1,fun r g=>(h.sub r g).blk fun k f=>hb k (f.imp id .inl),h.up⟩
theorem DRow.below {w g:G}{b B:Nat}{v:QE}{R:List DR}(h:DRow w b v R)(hb:Below B w g)(f:w.heap.size<=B):DRow g b v R :=
 ⟨own_below h.own hb f,fun r i=>(h.sub r i).below hb f,h.up⟩
theorem DRow.mono {w:G}{b base':Nat}{v:QE}{R:List DR}(h:DRow w b v R)(hb:base'<=b):DRow w base' v R:=⟨aE h.own hb,fun r f=>(h.sub r f).mono hb,h.up⟩
theorem DRow.set {w:G}{f:Nat}{v:QE}{R:List DR}(h:DRow w f v R){p:Addr}{e:TypeId}(i:p.block<f∨(OfTy w p.block e/\e≠146/\e≠129/\e≠46))(u:QE):DRow (w.setCell p u) f v R :=
 h.blk fun k b hb=>qh _ _ _ _ (fun x=>by
  subst x;rcases i with i | ⟨g,h1,h2,j⟩
  ·omega
  ·rcases b with b | b | b
   ·exact g.ne (Ne.symm h1) b
   ·exact g.ne (Ne.symm h2) b
   ·exact g.ne (Ne.symm j) b)
theorem gD (w:G)(b:Nat):DRow w b (Y Z 0 0) []:=⟨BG _ _ _ _,fun r f=>absurd f (by simp),List.Pairwise.nil⟩
theorem DRow.more {w i m:G}{g:Nat}{v u:QE}{R:List DR}{r:DR}(h:DRow w g v R)(h1:DRow i g v R)(l:g<=w.heap.size)(p:DSub i w.heap.size r)
  (o:m.ownsRow g 46 6 u (R.length+1) (R.flatMap ddV++ddV r)) (q:i.grownBy m v.ownBlock):DRow m g u (R++[r]):=by
 have y:∀ k,OfTy i k 146∨OfTy i k 129->T k≠v.ownBlock:=fun k f e=>by
  have A:=fh h1.own k e.symm;rcases f with f | f
  ·exact A.ne (by decide) f
  ·exact A.ne (by decide) f
 have t:∀ k,OfTy i k 146∨OfTy i k 129->k<i.heap.size:=fun k f=>by rcases f with ⟨c,z,f⟩ | ⟨c,z,f⟩<;>exact(BO.1 f).1
 have keep:∀ k,OfTy i k 146∨OfTy i k 129->m.heap[k]?=i.heap[k]?:=fun k f=>q.block k (t k f) (y k f);refine⟨by simpa using o,fun x j=>?_,?_⟩
 ·rcases nL.1 j with j | j
  ·exact(h1.sub x j).blk fun k f _=>keep k f
  ·simp at j
   subst j;exact(p.blk fun k f _=>keep k f).mono l
 ·rw[JG]
  refine⟨h.up,by simp,fun a B b n=>?_⟩;simp at n;subst n;have s:=h.sub a B;refine⟨?_,?_⟩
  ·cases f:a.2.1.ownBlock with
   | none=>exact .inl f
   | some k =>refine .inr fun e=>?_;have h1:=(s.act.lt k f).2;have h2:=(p.act.lt k (e ▸ f)).1;omega
  ·cases f:a.2.2.ownBlock with
   | none=>exact .inl f
   | some k =>refine .inr fun e=>?_;have h1:=(s.lnk.lt k f).2;have h2:=(p.lnk.lt k (e ▸ f)).1;omega
theorem zH {w:G}{b n g cap:Nat}{f:Nat->Link}(h:w.ownsRow b 129 4 (Y (T (N g 0 Z)) n cap) n (bV f n)):RowLink w g 0 n f:=by
 refine⟨(cX h).2,fun i hi=>?_⟩;have c:∀ j,j<4->∀ u,(dE (f i))[j]?=T u->w.cell? (N g (0+i*4+j) Z)=T u:=fun j m u l=>by have:=(bv h (j:=i*4+j) (u:=u) (by rw[i8 f hi j m];exact l)).1;rwa[show 0+i*4+j=i*4+j by omega]
 exact⟨c 0 (by omega) _ rfl,c 1 (by omega) _ rfl,c 2 (by omega) _ rfl,c 3 (by omega) _ rfl⟩
theorem DSub.ins {w:G}{b:Nat}{r:DR}(h:DSub w b r):∃ a cap,r.2.1=Y a r.1.actN cap/\SlIns w a r.1.actN r.1.act:=by
 obtain⟨a,cap,e⟩:=kE h.act;refine⟨a,cap,e,?_⟩;by_cases hz:r.1.actN=0
 ·exact .inl hz
 ·obtain⟨g,c,f⟩:=dr h.act (by omega)
  have i:=h.act;rw[f] at i;rw[e] at f;cases f
  exact .inr ⟨g,0,rfl,(jX i).1⟩
theorem DSub.links {w:G}{b:Nat}{r:DR}(h:DSub w b r):∃ a cap,r.2.2=Y a r.1.linksN cap/\SlLink w a r.1.linksN r.1.links:=by
 obtain⟨a,cap,e⟩:=kE h.lnk;refine⟨a,cap,e,?_⟩;by_cases hz:r.1.linksN=0
 ·exact .inl hz
 ·obtain⟨g,c,f⟩:=dr h.lnk (by omega)
  have i:=h.lnk;rw[f] at i;rw[e] at f;cases f
  exact .inr ⟨g,0,rfl,zH i⟩
theorem cU {R:List DR}{i:Nat}(hi:i<R.length):∃ r,R[i]?=T r/\r∈R:=⟨R[i],gq hi,gj hi⟩
theorem fJ {R:List DR}{i:Nat}{r:DR}(h:R[i]?=T r):dF (R.map (·.1)) i=r.1:=by unfold dF;rw[CL,IH,h];rfl
theorem ed {w:G}{b g cap:Nat}{R:List DR}(h:w.ownsRow b 46 6 (Y (T (N g 0 Z)) R.length cap) R.length (R.flatMap ddV)){i:Nat}{r:DR}(f:R[i]?=T r)(j:Nat)(l:j<6){u:QE}(m:(ddV r)[j]?=T u):w.cell? (N g (i*6+j) Z)=T u/\w.frozen? (N g (i*6+j) Z)=QB :=
 bv h (j:=i*6+j) (u:=u) (by rw[cK ddV 6 (fun _=>rfl) R i j l r f];exact m)
theorem DRow.deeds {w:G}{b c:Nat}{a:Option Addr}{R:List DR}(h:DRow w b (Y a R.length c) R):SlDeed w a R.length (dF (R.map (·.1))):=by
 by_cases hz:R.length=0
 ·exact .inl hz
 ·obtain⟨g,c',e⟩:=dr h.own (by omega)
  cases e
  refine .inr ⟨g,0,rfl,(cX h.own).2,fun i hi=>?_⟩;obtain⟨r,l,f⟩:=cU hi;rw[fJ l];have c:∀ j,j<6->∀ u,(ddV r)[j]?=T u->w.cell? (N g (0+i*6+j) Z)=T u:=fun j o u x=>by rw[show 0+i*6+j=i*6+j by omega];exact(ed h.own l j o x).1
  obtain⟨n,c4,p,m⟩:=(h.sub r f).ins;obtain⟨t,c5,q,s⟩:=(h.sub r f).links;exact⟨c 0 (by omega) _ rfl,c 1 (by omega) _ rfl,c 2 (by omega) _ rfl,c 3 (by omega) _ rfl,⟨n,c4,by rw[<-p];exact c 4 (by omega) _ rfl,m⟩,⟨t,c5,by rw[<-q];exact c 5 (by omega) _ rfl,s⟩⟩
def rAt (R:List DR)(i:Nat):DR:=R.getD i (eU,Y Z 0 0,Y Z 0 0)
def ra (R:List DR)(i:Nat):Nat:=(rAt R i).1.actN
def rl (R:List DR)(i:Nat):Nat:=(rAt R i).1.linksN
structure CpB (W:G)(h:Nat)(v vo:QE):Prop where
 size:h+3<=W.heap.size
 a:W.cell? (N h 0 Z)=T v
 r:W.cell? (N (h+1) 0 Z)=T (Y Z 0 0)/\W.frozen? (N (h+1) 0 Z)=QB
 o:W.cell? (N (h+2) 0 Z)=T vo/\W.frozen? (N (h+2) 0 Z)=QB
theorem sy (W:G)(v:QE)(t:TypeId):(W.alloc (Q #[v] t)).cell? (N W.heap.size 0 Z)=T v/\(W.alloc (Q #[v] t)).frozen? (N W.heap.size 0 Z)=QB:=by constructor<;>simp
theorem DU (w:G)(v:QE)(b:TypeId):CpB (((w.alloc (Q #[v] b)).alloc (Q #[Y Z 0 0] b)).alloc (Q #[Y Z 0 0] b)) w.heap.size v (Y Z 0 0):=by
 obtain⟨f,n⟩:∃ f,w.alloc (Q #[v] b)=f:=⟨_,rfl⟩
 obtain⟨g,j⟩:∃ g,f.alloc (Q #[Y Z 0 0] b)=g:=⟨_,rfl⟩
 obtain⟨i,l⟩:∃ i,g.alloc (Q #[Y Z 0 0] b)=i:=⟨_,rfl⟩
 rw[n,j,l];have z1:f.heap.size=w.heap.size+1:=by rw[<-n];simp
 have z2:g.heap.size=w.heap.size+2:=by rw[<-j];simp;omega
 have z3:i.heap.size=w.heap.size+3:=by rw[<-l];simp;omega
 have h:Below g.heap.size g i:=by rw[<-l];exact br.alloc ly _
 have q:Below f.heap.size f i:=(by rw[<-j];exact br.alloc ly _:Below f.heap.size f g).trans (h.mono (by omega));have n1:=sy w v b;have m:=sy f (Y Z 0 0) b;have o:=sy g (Y Z 0 0) b;rw[n] at n1;rw[j,z1] at m;rw[l,z2] at o;exact⟨by omega,(q.cell (p:=(N w.heap.size 0 Z)) (by show w.heap.size<_;omega)).trans n1.1,⟨(h.cell (p:=(N (w.heap.size+1) 0 Z)) (by show w.heap.size+1<_;omega)).trans m.1,(h.frozen (p:=(N (w.heap.size+1) 0 Z)) (by show w.heap.size+1<_;omega)).trans m.2⟩,o⟩
theorem CpB.below {W g:G}{h B:Nat}{v j:QE}(b:CpB W h v j)(hb:Below B W g)(hB:h+3<=B):CpB g h v j:=by have c:∀ k o,k<B->g.cell? (N k o Z)=W.cell? (N k o Z):=fun k o i=>hb.cell (p:=(N k o Z)) i;have f:∀ k o,k<B->g.frozen? (N k o Z)=W.frozen? (N k o Z):=fun k o i=>hb.frozen (p:=(N k o Z)) i;exact⟨p9 b.size hb.size,(c _ _ (by omega)).trans b.a,⟨(c _ _ (by omega)).trans b.r.1,(f _ _ (by omega)).trans b.r.2⟩,⟨(c _ _ (by omega)).trans b.o.1,(f _ _ (by omega)).trans b.o.2⟩⟩
theorem CpB.out {W:G}{h:Nat}{v f:QE}(b:CpB W h v f)(u:QE):CpB (W.setCell (N (h+2) 0 Z) u) h v u:=by have c:∀ k o,k≠h+2->(W.setCell (N (h+2) 0 Z) u).cell? (N k o Z)=W.cell? (N k o Z):=fun k o g=>cell_far _ _ _ _ (by simpa using fun e=>g e.symm);exact⟨by simpa using b.size,(c _ _ (by omega)).trans b.a,⟨(c _ _ (by omega)).trans b.r.1,by simpa using b.r.2⟩,⟨AI _ _ _ (by rw[b.o.1];rfl),by simpa using b.o.2⟩⟩
theorem DV (w:G)(b f g l m i:QE)(t:TypeId):∀ j u,[b,f,g,l,m,i][j]?=T u->(w.alloc (Q #[b,f,g,l,m,i] t)).cell? (((N w.heap.size 0 Z):Addr).add j)=T u:=by
 intro j u n;have hj:j<6:=by have:=(j2.1 n).1;simpa using this
 have h:=nJ w b f g l m i t;rw[addr_add,D0];rcases(show j=0∨j=1∨j=2∨j=3∨j=4∨j=5 by omega) with rfl | rfl | rfl | rfl | rfl | rfl;all_goals simp only[List.getElem?_cons_zero,List.getElem?_cons_succ,IF] at n;subst n
 ·exact h.c0.1
 ·exact h.c1.1
 ·exact h.c2.1
 ·exact h.c3.1
 ·exact h.c4.1
 ·exact h.c5.1
end Go.Proofs.YtamacmnikdejeaaGreatDoor.Vp
