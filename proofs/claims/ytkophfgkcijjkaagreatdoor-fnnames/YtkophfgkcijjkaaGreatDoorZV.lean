import Derived.Test.YtkophfgkcijjkaaGreatDoorZU
import Derived.Test.YtkophfgkcijjkaaGreatDoorZC
namespace Go.Proofs.YtkophfgkcijjkaaGreatDoor.Vp
open RowKit Ca
def cS (x:Link):List Value:=[.string x.name,.bool x.ask,.bool x.has,.int .i64 x.at_]
def bJ (f:Nat->Link)(n:Nat):List Value:=((List.range n).map f).flatMap cS
theorem fW (f:Nat->Link)(n:Nat):(bJ f n).length=n*4:=by rw[bJ,eh cS 4 (fun _=>rfl)];simp
theorem gQ (f:Nat->Link){n i:Nat}(hi:i<n)(j:Nat)(b:j<4):(bJ f n)[i*4+j]?=(cS (f i))[j]? :=
 bZ cS 4 (fun _=>rfl) _ i j b (f i) (by simp[hi])
theorem ud (f:Nat->Link)(n:Nat):∀ u∈bJ f n,u.oneCell'=true:=by intro u c;simp only[bJ,List.mem_flatMap,cS] at c;obtain⟨x,_,b⟩:=c;simp at b;rcases b with rfl | rfl | rfl | rfl<;>simp[Value.oneCell']
theorem vJ {w:World}{b off n:Nat}{f:Nat->Link}(h:RowLink w b off n f):∀ j u,(bJ f n)[j]?=some u->w.cell? ((⟨b,off,none⟩:Addr).add j)=some u:=by
 intro j u c;have hl:j<n*4:=by have:=(List.getElem?_eq_some_iff.1 c).1;rwa[fW] at this
 have e:j=j / 4*4+j % 4:=by omega
 have hi:j / 4<n:=by omega
 obtain⟨k,l,m,d⟩:=h.2 (j / 4) hi;have i:j % 4<4:=Nat.mod_lt _ (by omega);rw[e,gQ f hi (j % 4) i] at c;have g:(⟨b,off,none⟩:Addr).add j=⟨b,off+j,none⟩:=addr_add _ _ _;rw[g];rcases(show j % 4=0∨j % 4=1∨j % 4=2∨j % 4=3 by omega) with q | q | q | q;all_goals rw[q] at c;simp[cS] at c;subst c
 ·rw[show off+j=off+j / 4*4 by omega];exact k
 ·rw[show off+j=off+j / 4*4+1 by omega];exact l
 ·rw[show off+j=off+j / 4*4+2 by omega];exact m
 ·rw[show off+j=off+j / 4*4+3 by omega];exact d
theorem dJ {w i:World}{b size n:Nat}{e:TypeId}{v:Value}{j:List Value}(h:w.ownsRow b e size v n j)(hb:∀ k,v.ownBlock=some k->OfTy w k e->i.heap[k]?=w.heap[k]?):i.ownsRow b e size v n j:=by
 refine⟨h.1,?_⟩;rcases h.2 with hn | ⟨g,cap,d,rfl,f,c,rest⟩
 ·exact .inl hn
 ·exact .inr ⟨g,cap,d,rfl,f,(hb g rfl ⟨d,_,c⟩).trans c,rest⟩
theorem eJ {w:World}{b size n:Nat}{e:TypeId}{v:Value}{i:List Value}(h:w.ownsRow b e size v n i):∀ k,v.ownBlock=some k->OfTy w k e:=by
 intro k c;rcases h.2 with ⟨rfl,_⟩ | ⟨g,cap,d,rfl,_,f,_⟩
 ·simp[Value.ownBlock] at c
 ·simp[Value.ownBlock] at c
  subst c;exact⟨d,_,f⟩
theorem dm {w:World}{b size n:Nat}{e:TypeId}{v:Value}{d:List Value}(h:w.ownsRow b e size v n d)(hn:0<n):∃ g cap,v=.slice (some ⟨g,0,none⟩) n cap:=by
 rcases h.2 with ⟨_,h2⟩ | ⟨g,c,cur,f,_⟩
 ·omega
 ·exact⟨g,c,f⟩
theorem ja {w:World}{d size n:Nat}{e:TypeId}{v:Value}{f:List Value}(h:w.ownsRow d e size v n f):∃ a cap,v=.slice a n cap:=by
 rcases h.2 with ⟨b,i⟩ | ⟨g,c,cur,b,_⟩
 ·exact⟨none,0,by rw[b,i]⟩
 ·exact⟨_,_,b⟩
abbrev DR:=ar × Value × Value
def ddV (r:DR):List Value:=[.string r.1.name,.int .i64 r.1.kind,.int .i64 r.1.code,.string r.1.text,r.2.1,r.2.2]
structure DSub (w:World)(base:Nat)(r:DR):Prop where
 act:w.ownsRow base 176 3 r.2.1 r.1.actN (bI r.1.act r.1.actN)
 lnk:w.ownsRow base 73 4 r.2.2 r.1.linksN (bJ r.1.links r.1.linksN)
def Apt (a b:Value):Prop:=a.ownBlock=none∨a.ownBlock≠b.ownBlock
structure DRow (w:World)(base:Nat)(v:Value)(R:List DR):Prop where
 own:w.ownsRow base 67 6 v R.length (R.flatMap ddV)
 sub:∀ r∈R,DSub w base r
 up:R.Pairwise fun a b=>Apt a.2.1 b.2.1/\Apt a.2.2 b.2.2
theorem DSub.blk {w w':World}{b:Nat}{r:DR}(h:DSub w b r)(hb:∀ k,OfTy w k 176∨OfTy w k 73->b<=k->w'.heap[k]?=w.heap[k]?):DSub w' b r :=
 ⟨dJ h.act fun k c d=>hb k (.inl d) (h.act.lt k c).1,dJ h.lnk fun k c d=>hb k (.inr d) (h.lnk.lt k c).1⟩
theorem DSub.below {w d:World}{b B:Nat}{r:DR}(h:DSub w b r)(hb:Below B w d)(c:w.heap.size<=B):DSub d b r:=⟨own_below h.act hb c,own_below h.lnk hb c⟩
theorem DSub.mono {w:World}{b base':Nat}{r:DR}(h:DSub w b r)(hb:base'<=b):DSub w base' r:=⟨aB h.act hb,aB h.lnk hb⟩
theorem DRow.blk {w w':World}{b:Nat}{v:Value}{R:List DR}(h:DRow w b v R)(hb:∀ k,OfTy w k 176∨OfTy w k 73∨OfTy w k 67->b<=k->w'.heap[k]?=w.heap[k]?):DRow w' b v R :=
 ⟨dJ h.own fun k c f=>hb k (.inr (.inr f)) (h.own.lt k c).1,fun r d=>(h.sub r d).blk fun k c=>hb k (c.imp id .inl),h.up⟩
theorem DRow.below {w c:World}{b B:Nat}{v:Value}{R:List DR}(h:DRow w b v R)(hb:Below B w c)(d:w.heap.size<=B):DRow c b v R :=
 ⟨own_below h.own hb d,fun r f=>(h.sub r f).below hb d,h.up⟩
theorem DRow.mono {w:World}{b base':Nat}{v:Value}{R:List DR}(h:DRow w b v R)(hb:base'<=b):DRow w base' v R:=⟨aB h.own hb,fun r c=>(h.sub r c).mono hb,h.up⟩
theorem DRow.set {w:World}{c:Nat}{v:Value}{R:List DR}(h:DRow w c v R){p:Addr}{e:TypeId}(f:p.block<c∨(OfTy w p.block e/\e≠176/\e≠73/\e≠67))(u:Value):DRow (w.setCell p u) c v R :=
 h.blk fun k b hb=>qh _ _ _ _ (fun x=>by
  subst x;rcases f with f | ⟨d,i,j,g⟩
  ·omega
  ·rcases b with b | b | b
   ·exact d.ne (Ne.symm i) b
   ·exact d.ne (Ne.symm j) b
   ·exact d.ne (Ne.symm g) b)
theorem fL (w:World)(b:Nat):DRow w b (.slice none 0 0) []:=⟨World.ownsRow_nil _ _ _ _,fun r c=>absurd c (by simp),List.Pairwise.nil⟩
theorem DRow.more {w f j:World}{g:Nat}{v A:Value}{R:List DR}{r:DR}(h:DRow w g v R)(m:DRow f g v R)(l:g<=w.heap.size)(o:DSub f w.heap.size r)
  (p:j.ownsRow g 67 6 A (R.length+1) (R.flatMap ddV++ddV r)) (t:f.grownBy j v.ownBlock):DRow j g A (R++[r]):=by
 have s:∀ k,OfTy f k 176∨OfTy f k 73->some k≠v.ownBlock:=fun k d e=>by
  have y:=eJ m.own k e.symm;rcases d with d | d
  ·exact y.ne (by decide) d
  ·exact y.ne (by decide) d
 have q:∀ k,OfTy f k 176∨OfTy f k 73->k<f.heap.size:=fun k d=>by rcases d with ⟨c,z,d⟩ | ⟨c,z,d⟩<;>exact(Array.getElem?_eq_some_iff.1 d).1
 have keep:∀ k,OfTy f k 176∨OfTy f k 73->j.heap[k]?=f.heap[k]?:=fun k d=>t.block k (q k d) (s k d);refine⟨by simpa using p,fun x i=>?_,?_⟩
 ·rcases List.mem_append.1 i with i | i
  ·exact(m.sub x i).blk fun k d _=>keep k d
  ·simp at i
   subst i;exact(o.blk fun k d _=>keep k d).mono l
 ·rw[List.pairwise_append]
  refine⟨h.up,by simp,fun a B b n=>?_⟩;simp at n;subst n;have u:=h.sub a B;refine⟨?_,?_⟩
  ·cases d:a.2.1.ownBlock with
   | none=>exact .inl d
   | some k =>refine .inr fun e=>?_;have m:=(u.act.lt k d).2;have C:=(o.act.lt k (e ▸ d)).1;omega
  ·cases d:a.2.2.ownBlock with
   | none=>exact .inl d
   | some k =>refine .inr fun e=>?_;have m:=(u.lnk.lt k d).2;have C:=(o.lnk.lt k (e ▸ d)).1;omega
theorem vK {w:World}{b n g cap:Nat}{f:Nat->Link}(h:w.ownsRow b 73 4 (.slice (some ⟨g,0,none⟩) n cap) n (bJ f n)):RowLink w g 0 n f:=by
 refine⟨(cu h).2,fun i hi=>?_⟩;have c:∀ j,j<4->∀ u,(cS (f i))[j]?=some u->w.cell? ⟨g,0+i*4+j,none⟩=some u:=fun j d u k=>by have:=(bA h (j:=i*4+j) (u:=u) (by rw[gQ f hi j d];exact k)).1;rwa[show 0+i*4+j=i*4+j by omega]
 exact⟨c 0 (by omega) _ rfl,c 1 (by omega) _ rfl,c 2 (by omega) _ rfl,c 3 (by omega) _ rfl⟩
theorem DSub.ins {w:World}{d:Nat}{r:DR}(h:DSub w d r):∃ a cap,r.2.1=.slice a r.1.actN cap/\SlIns w a r.1.actN r.1.act:=by
 obtain⟨a,cap,e⟩:=ja h.act;refine⟨a,cap,e,?_⟩;by_cases hz:r.1.actN=0
 ·exact .inl hz
 ·obtain⟨g,c,b⟩:=dm h.act (by omega)
  have f:=h.act;rw[b] at f;rw[e] at b;cases b
  exact .inr ⟨g,0,rfl,(kf f).1⟩
theorem DSub.links {w:World}{d:Nat}{r:DR}(h:DSub w d r):∃ a cap,r.2.2=.slice a r.1.linksN cap/\SlLink w a r.1.linksN r.1.links:=by
 obtain⟨a,cap,e⟩:=ja h.lnk;refine⟨a,cap,e,?_⟩;by_cases hz:r.1.linksN=0
 ·exact .inl hz
 ·obtain⟨g,c,b⟩:=dm h.lnk (by omega)
  have f:=h.lnk;rw[b] at f;rw[e] at b;cases b
  exact .inr ⟨g,0,rfl,vK f⟩
theorem dI {R:List DR}{i:Nat}(hi:i<R.length):∃ r,R[i]?=some r/\r∈R:=⟨R[i],gq hi,gz hi⟩
theorem jb {R:List DR}{i:Nat}{r:DR}(h:R[i]?=some r):dF (R.map (·.1)) i=r.1:=by unfold dF;rw[List.getD_eq_getElem?_getD,List.getElem?_map,h];rfl
theorem fX {w:World}{b g cap:Nat}{R:List DR}(h:w.ownsRow b 67 6 (.slice (some ⟨g,0,none⟩) R.length cap) R.length (R.flatMap ddV)){i:Nat}{r:DR}(d:R[i]?=some r)(j:Nat)(c:j<6){u:Value}(f:(ddV r)[j]?=some u):w.cell? ⟨g,i*6+j,none⟩=some u/\w.frozen? ⟨g,i*6+j,none⟩=false :=
 bA h (j:=i*6+j) (u:=u) (by rw[bZ ddV 6 (fun _=>rfl) R i j c r d];exact f)
theorem DRow.deeds {w:World}{b c:Nat}{a:Option Addr}{R:List DR}(h:DRow w b (.slice a R.length c) R):SlDeed w a R.length (dF (R.map (·.1))):=by
 by_cases hz:R.length=0
 ·exact .inl hz
 ·obtain⟨g,c',e⟩:=dm h.own (by omega)
  cases e
  refine .inr ⟨g,0,rfl,(cu h.own).2,fun i hi=>?_⟩;obtain⟨r,d,f⟩:=dI hi;rw[jb d];have c:∀ j,j<6->∀ u,(ddV r)[j]?=some u->w.cell? ⟨g,0+i*6+j,none⟩=some u:=fun j q u s=>by rw[show 0+i*6+j=i*6+j by omega];exact(fX h.own d j q s).1
  obtain⟨k,c4,l,n⟩:=(h.sub r f).ins;obtain⟨p,c5,m,o⟩:=(h.sub r f).links;exact⟨c 0 (by omega) _ rfl,c 1 (by omega) _ rfl,c 2 (by omega) _ rfl,c 3 (by omega) _ rfl,⟨k,c4,by rw[<-l];exact c 4 (by omega) _ rfl,n⟩,⟨p,c5,by rw[<-m];exact c 5 (by omega) _ rfl,o⟩⟩
def rAt (R:List DR)(i:Nat):DR:=R.getD i (fw,.slice none 0 0,.slice none 0 0)
def ra (R:List DR)(i:Nat):Nat:=(rAt R i).1.actN
def rl (R:List DR)(i:Nat):Nat:=(rAt R i).1.linksN
structure CpB (W:World)(h:Nat)(v vo:Value):Prop where
 size:h+3<=W.heap.size
 a:W.cell? ⟨h,0,none⟩=some v
 r:W.cell? ⟨h+1,0,none⟩=some (.slice none 0 0)/\W.frozen? ⟨h+1,0,none⟩=false
 o:W.cell? ⟨h+2,0,none⟩=some vo/\W.frozen? ⟨h+2,0,none⟩=false
theorem o9 (W:World)(v:Value)(t:TypeId):(W.alloc (.cells #[v] t)).cell? ⟨W.heap.size,0,none⟩=some v/\(W.alloc (.cells #[v] t)).frozen? ⟨W.heap.size,0,none⟩=false:=by constructor<;>simp
theorem yH (w:World)(v:Value)(b:TypeId):CpB (((w.alloc (.cells #[v] b)).alloc (.cells #[.slice none 0 0] b)).alloc (.cells #[.slice none 0 0] b)) w.heap.size v (.slice none 0 0):=by
 obtain⟨c,j⟩:∃ c,w.alloc (.cells #[v] b)=c:=⟨_,rfl⟩
 obtain⟨d,h⟩:∃ d,c.alloc (.cells #[.slice none 0 0] b)=d:=⟨_,rfl⟩
 obtain⟨g,i⟩:∃ g,d.alloc (.cells #[.slice none 0 0] b)=g:=⟨_,rfl⟩
 rw[j,h,i];have z1:c.heap.size=w.heap.size+1:=by rw[<-j];simp
 have z2:d.heap.size=w.heap.size+2:=by rw[<-h];simp;omega
 have z3:g.heap.size=w.heap.size+3:=by rw[<-i];simp;omega
 have f:Below d.heap.size d g:=by rw[<-i];exact br.alloc ly _
 have m:Below c.heap.size c g:=(by rw[<-h];exact br.alloc ly _:Below c.heap.size c d).trans (f.mono (by omega));have n1:=o9 w v b;have k:=o9 c (.slice none 0 0) b;have l:=o9 d (.slice none 0 0) b;rw[j] at n1;rw[h,z1] at k;rw[i,z2] at l;exact⟨by omega,(m.cell (p:=⟨w.heap.size,0,none⟩) (by show w.heap.size<_;omega)).trans n1.1,⟨(f.cell (p:=⟨w.heap.size+1,0,none⟩) (by show w.heap.size+1<_;omega)).trans k.1,(f.frozen (p:=⟨w.heap.size+1,0,none⟩) (by show w.heap.size+1<_;omega)).trans k.2⟩,l⟩
theorem CpB.below {W d:World}{h B:Nat}{v i:Value}(b:CpB W h v i)(hb:Below B W d)(hB:h+3<=B):CpB d h v i:=by have c:∀ k o,k<B->d.cell? ⟨k,o,none⟩=W.cell? ⟨k,o,none⟩:=fun k o g=>hb.cell (p:=⟨k,o,none⟩) g;have f:∀ k o,k<B->d.frozen? ⟨k,o,none⟩=W.frozen? ⟨k,o,none⟩:=fun k o g=>hb.frozen (p:=⟨k,o,none⟩) g;exact⟨Nat.le_trans b.size hb.size,(c _ _ (by omega)).trans b.a,⟨(c _ _ (by omega)).trans b.r.1,(f _ _ (by omega)).trans b.r.2⟩,⟨(c _ _ (by omega)).trans b.o.1,(f _ _ (by omega)).trans b.o.2⟩⟩
theorem CpB.out {W:World}{h:Nat}{v d:Value}(b:CpB W h v d)(u:Value):CpB (W.setCell ⟨h+2,0,none⟩ u) h v u:=by have c:∀ k o,k≠h+2->(W.setCell ⟨h+2,0,none⟩ u).cell? ⟨k,o,none⟩=W.cell? ⟨k,o,none⟩:=fun k o f=>cell_far _ _ _ _ (by simpa using fun e=>f e.symm);exact⟨by simpa using b.size,(c _ _ (by omega)).trans b.a,⟨(c _ _ (by omega)).trans b.r.1,by simpa using b.r.2⟩,⟨World.cell?_setCell_same' _ _ _ (by rw[b.o.1];rfl),by simpa using b.o.2⟩⟩
theorem yI (w:World)(b f g k d c:Value)(t:TypeId):∀ j u,[b,f,g,k,d,c][j]?=some u->(w.alloc (.cells #[b,f,g,k,d,c] t)).cell? ((⟨w.heap.size,0,none⟩:Addr).add j)=some u:=by
 intro j u i;have hj:j<6:=by have:=(List.getElem?_eq_some_iff.1 i).1;simpa using this
 have h:=gN w b f g k d c t;rw[addr_add,Nat.zero_add];rcases(show j=0∨j=1∨j=2∨j=3∨j=4∨j=5 by omega) with rfl | rfl | rfl | rfl | rfl | rfl;all_goals simp only[List.getElem?_cons_zero,List.getElem?_cons_succ,Option.some.injEq] at i;subst i
 ·exact h.c0.1
 ·exact h.c1.1
 ·exact h.c2.1
 ·exact h.c3.1
 ·exact h.c4.1
 ·exact h.c5.1
end Go.Proofs.YtkophfgkcijjkaaGreatDoor.Vp
