import Derived.Test.YtoddkejemcbkmaaGreatDoorRU
import Derived.Test.YtoddkejemcbkmaaGreatDoorRV
import Derived.Lib.AtoiAllCases
import Derived.Test.YtoddkejemcbkmaaGreatDoorRG
set_option maxRecDepth 100000
set_option maxHeartbeats 4000000
open Go renaming Addr.mk->Q,Value.slice->Z,Value.string->U,Value.int->J,Value.bool->ZD,Obj.cells->N,IntKind.i64->I,World->M,Ending.returned->ZF,Proofs.Tryz.prog->Pg
open Option renaming none->Y,some->T
open Bool renaming false->ZA,true->ZG
namespace Go.Proofs.YtoddkejemcbkmaaGreatDoor.Vp
open Tryz RowKit
variable {s x S:List UInt8}{w:M}{B f:Nat}{n op:Int}{o:Option I3}
theorem pM:∀(out t rest:List UInt8),t.flatMap enc=out.flatMap enc++rest->∃u,t=out++u/\rest=u.flatMap enc
 |[],t,rest,h=>⟨t,rfl,by simpa using h.symm⟩
 |c::out,[],rest,h=>by have h1:=AP List.length h;have h2:=jv c;simp at h1;omega
 |c::out,d::t,rest,h=>by rw[J2,J2,MV] at h;have h1:=AP dC h;rw[jE,jE] at h1;simp only[MU,MG] at h1;obtain⟨u,h2,h3⟩:=pM out t rest h1.2;exact⟨u,by rw[h1.1,h2];rfl,h3⟩
theorem DZ{out rest:List UInt8}(f:rest≠[])(b:dC rest=Y)(t:List UInt8):out.flatMap enc++rest≠t.flatMap enc:=by
 intro h;obtain⟨u,-,h2⟩:=pM out t rest h.symm;cases u with
 |nil=>exact f (by simpa using h2)
 |cons c u =>rw[h2,J2,jE] at b;cases b
theorem ixI (s:ByteArray)(x:Int)(i:Nat)(b:x=i)(h:i<s.size)(w:M):(Instr.index 9 (U s) (J I x)).run Pg w=.ok (J .u8 (s.data.toList[i]'(by rw[aH];exact h)).toNat) w:=by subst b;rw[run_index_string w 9 s I (i:Int) IN];simp[h];rfl
theorem xw:∀l:List UInt8,l.length<=(l.flatMap enc).length
 |[]=>by simp
 |c::r=>by have:=jv c;have:=xw r;simp only[J2,cM,eT];omega
def Ib:Value->Nat
 |U s=>s.size
 |_=>0
theorem kI{mid:List UInt8}(h:s=34::mid++[34])(t:List UInt8):s=aJ t ↔ mid=t.flatMap enc:=by
 rw[dw,h];constructor;{intro e;have:=List.cons.inj e;exact(PQ this.2 rfl).1};{intro e;rw[e]}
theorem yP (s:List UInt8)(t:List UInt8)(h:s=aJ t):2<=s.length/\s[0]?=T 34/\s[s.length - 1]?=T 34:=by rw[h,dw];refine⟨by simp,by simp,?_⟩;rw[I5 (by simp)];simp
theorem Ic (h2:2<=s.length)(g:s[0]?=T 34)(h1:s[s.length - 1]?=T 34):s=34::(s.drop 1).take (s.length - 2)++[34]:=by
 cases s with
 |nil=>simp at h2
 |cons c r =>
  simp only[eT] at h2 h1 ⊢;simp at g;subst g;have b:r≠[]:=λe=>by rw[e] at h2;simp at h2
  have h:r.getLast b=34:=by rw[List.getLast_eq_getElem];have hp:0<r.length:=IB.2 b;rw[show r.length+1 - 1=(r.length - 1)+1 by omega,TH] at h1;obtain⟨_,h3⟩:=p6.1 h1;exact h3
  have f:=List.dropLast_concat_getLast b;rw[h] at f;rw[show r.length+1 - 2=r.length - 1 by omega,List.drop_succ_cons,List.drop_zero,<-List.dropLast_eq_take];exact AP (List.cons 34) f.symm
def pN (S:List UInt8)(e:Ending):Prop:=(∃t,S=aJ t/\e=ZF (.tuple #[U ⟨t.toArray⟩,.nilIface]))∨((∀t,S≠aJ t)/\∃t p,e=ZF (.tuple #[U ⟨#[]⟩,.iface t p]))
theorem Ie (s:ByteArray)(a:Nat):s.extract a s.size=⟨(s.data.toList.drop a).toArray⟩:=by refine MP (PE ?_);simp only[NR,OQ,NN];rw[KK (by simp)]
theorem lW (s:ByteArray)(w:M)(hs:s.size<=16777216)(q:EV w 5)(hn:s.size<2∨(2<=s.size/\s.data.toList[0]?≠T 34)∨(2<=s.size/\s.data.toList[0]?=T 34/\s.data.toList[s.size - 1]?≠T 34)):Calls Pg 138 #[U s] w λe r=>pN s.data.toList e/\Below w.heap.size w r:=by
 have l:Hid (∀t,s.data.toList≠aJ t):=λt e=>by
  have h:=yP _ t e;rw[aH] at h;rcases hn with h1|⟨_,h1⟩|⟨_,_,h1⟩
  {omega};{exact h1 h.2.1};{exact h1 h.2.2}
 obtain⟨hz,u,n,hev⟩:=q;have o:(s.size:Int)<2∨(¬ (s.size:Int)<2/\∃c:UInt8,((c.toNat:Int) != 34)=ZG/\∀V,(Instr.index 9 (U s) (J I 0)).run Pg V=.ok (J .u8 c.toNat) V)∨(¬ (s.size:Int)<2/\(∀V,(Instr.index 9 (U s) (J I 0)).run Pg V=.ok (J .u8 34) V)/\∃c:UInt8,((c.toNat:Int) != 34)=ZG/\∀V,(Instr.index 9 (U s) (J I ((s.size:Int) - 1))).run Pg V=.ok (J .u8 c.toNat) V):=by
  have b:∀c:UInt8,c≠34->((c.toNat:Int) != 34)=ZG:=λc h=>by have:¬ (c.toNat:Int)=34:=λe=>h (by rw[<-QG];show c.toNat=34;omega);simpa using this
  rcases hn with h1|⟨h2,h1⟩|⟨h2,j,h1⟩
  {exact .inl (by omega)}
  ·have f:0<s.data.toList.length:=by rw[aH];omega
   rw[gq f] at h1;exact .inr (.inl ⟨by omega,s.data.toList[0],b _ (λe=>h1 (by rw[e])),λV=>ixI s 0 0 rfl (by omega) V⟩)
  ·have f:0<s.data.toList.length:=by rw[aH];omega
   have i:s.size - 1<s.data.toList.length:=by rw[aH];omega
   rw[gq f] at j;rw[gq i] at h1;refine .inr (.inr ⟨by omega,λV=>?_,s.data.toList[s.size - 1],b _ (λe=>h1 (by rw[e])),λV=>ixI s _ (s.size - 1) (by omega) (by omega) V⟩);have:=ixI s 0 0 rfl (by omega) V;rw[BO j] at this;exact this
 clear hn;rcases o with g|⟨g,c,p,m⟩|⟨g,m,c,p,X1⟩
 all_goals
  go_enter func138,ntmps138;go_wp2_with fail;go_quiet (fail);go_wp2;go_ret2;exact⟨.inr ⟨l.out,u,n,rfl⟩,AS br _⟩
theorem yQ (s:ByteArray)(w:M)(hs:s.size<=16777216)(hE:EV w 5)(h2:2<=s.size)(C:s.data.toList[0]?=T 34)(z:s.data.toList[s.size - 1]?=T 34):Calls Pg 138 #[U s] w λe w'=>pN s.data.toList e/\Below w.heap.size w w':=by
 have R:=ae (Ic (s:=s.data.toList) (by rw[aH];exact h2) C (by rw[aH];exact z));have p1:¬ (s.size:Int)<2:=by omega
 have H:0<s.data.toList.length:=by rw[aH];omega
 have O:s.size - 1<s.data.toList.length:=by rw[aH];omega
 rw[gq H] at C;rw[gq O] at z;have X0:∀V,(Instr.index 9 (U s) (J I 0)).run Pg V=.ok (J .u8 34) V:=λV=>by have:=ixI s 0 0 rfl (by omega) V;rw[BO C] at this;exact this
 have X1:∀V,(Instr.index 9 (U s) (J I ((s.size:Int) - 1))).run Pg V=.ok (J .u8 34) V:=λV=>by have:=ixI s ((s.size:Int) - 1) (s.size - 1) (by omega) (by omega) V;rw[BO z] at this;exact this
 clear C z H O;have ZM:Hid (s.extract 1 (s.size - 1)=⟨((s.data.toList.drop 1).take (s.data.toList.length - 2)).toArray⟩):=by show _=_;refine MP (PE ?_);rw[aH];simp only[NR,OQ,NN];rw[show s.size - 1 - 1=s.size - 2 by omega]
 have q1:(1:Int)<=(s.size:Int) - 1:=by omega
 have q2:(s.size:Int) - 1<=s.size:=by omega
 have ZJ:=ae (Bd.new w);have X:=ae ((q9 w).alloc ly (N #[.pointer Y,Z Y 0 0] 52));have G:=ae hE;have bt:((s.data.toList.drop 1).take (s.data.toList.length - 2)).length<=16777216:=by rw[MO,MI,aH];omega
 generalize (s.data.toList.drop 1).take (s.data.toList.length - 2)=j at R ZM bt;go_enter func138,ntmps138;go_wp2;rw[ZM.out];go_loopw [5] (λi wr=>∃(out rest:List UInt8),i=U ⟨rest.toArray⟩/\Hid (j=out.flatMap enc++rest)/\Hid (Bd wr w.heap.size w.heap.size out)/\Hid (Below w.heap.size w wr)) (λi _=>Ib i);case atStart=>exact⟨[],j,rfl,rfl,ZJ.out,X.out⟩
 case round =>
  clear ZJ X;obtain⟨out,rest,rfl,y,S,A⟩:=hrel;have L:w.heap.size<wr.heap.size:=S.out.lt.2;have n:out.length+rest.length<=16777216:=by have h1:=AP List.length y.out;have h3:=xw out;rw[cM] at h1;omega
  have HV:=ae (G.out.aa A.out G.out.1);cases rest with
  |nil =>have HQ:Hid (s.data.toList=aJ out):=(kI R.out out).2 (by rw[y.out];simp);go_wp2_with fail;refine(pJ w.heap.size w.heap.size out _ S.out (NK L)).mono ?_;rintro e w1 ⟨rfl,D⟩;have B:=ae (A.out.trans D);clear D;go_wp2;go_ret2;exact⟨.inl ⟨out,HQ.out,rfl⟩,B.out⟩
  |cons c r =>
   obtain⟨b,g⟩:∃b:ByteArray,b=⟨(c::r).toArray⟩:=⟨_,rfl⟩
   rw[<-g];have ZO:b.size=r.length+1:=by rw[g];simp[ByteArray.size]
   have hz:b.toList.isEmpty=ZA:=by rw[GC,g];simp
   have l:b.data.toList=c::r:=by rw[g]
   have ZL:=ae (pG b wr (by unfold maxLen;simp only[eT] at n;omega) (by omega) HV.out);have ZP:=ae (λh t=>DZ (out:=out) (rest:=c::r) (by simp) h t);have ZN:=ae (λd f (h:dC (c::r)=T (d,f))=>zP h);rw[l] at ZL;have p:=ae (λZI=>Ie b ZI);rw[l] at p;have hsr2:(b.size:Int)<=16777216:=by simp only[eT] at n;omega
   have P:=ae ZO;clear g l ZO;go_wp2_with fail;refine ZL.out.mono ?_;rintro e w1 ⟨h1,m,rfl⟩;cases hu:dC (c::r) with
   |none =>rw[hu] at h1;obtain⟨te,pe,rfl⟩:=h1;have HN:Hid (∀t,s.data.toList≠aJ t):=λt h=>ZP.out hu t (by rw[<-y.out];exact(kI R.out t).1 h);go_wp2;go_ret2;exact⟨.inr ⟨HN.out,te,pe,rfl⟩,AS A.out m⟩
   |some x =>
    obtain⟨d,f⟩:=x;rw[hu] at h1;subst h1;have q:=ZN.out d f hu;have ZM:=ae q;have W:=jv d;have u:r.length+1=(enc d).length+f.length:=by have:=AP List.length q;simpa using this
    have g1:((enc d).length:Int)<=b.size:=by have:=P.out;omega
    have o:Hid (b.extract (enc d).length b.size=⟨f.toArray⟩):=by show _=_;rw[p.out (enc d).length,q,List.drop_left]
    have K:=ae u;have aq:Hid (j=(out++[d]).flatMap enc++f):=by show _=_;rw[y.out,q];simp
    have ZK:=ae (S.out.aa (AS (q9 wr) m) ly);have B:=ae (AS A.out m);have ZQ:w.heap.size<=(wr.drewN m).heap.size:=NK L;clear q u p ZP ZN ZL hu;generalize wr.drewN m=W1 at ZK B ZQ ⊢;generalize (enc d).length=ZI at W g1 o K ⊢;go_wp2_with fail;refine(d9 w.heap.size w.heap.size out d _ ZK.out (by simp only[eT] at n;omega) ZQ).mono ?_;rintro e w2 ⟨rfl,F,E⟩;have D2:=ae F;have B2:=ae (B.out.trans E);clear F E;go_wp2;exact⟨⟨out++[d],f,by rw[o.out],aq.out,D2.out,B2.out⟩,by have h3:=K.out;have h4:=P.out;rw[o.out];show f.length<b.size;omega⟩
theorem kJ (s:ByteArray)(w:M)(b:s.size<=16777216)(c:EV w 5):Calls Pg 138 #[U s] w λe f=>pN s.data.toList e/\Below w.heap.size w f:=by
 by_cases h1:s.size<2;{exact lW s w b c (.inl h1)};{by_cases h2:s.data.toList[0]?=T 34;{by_cases h3:s.data.toList[s.size - 1]?=T 34;{exact yQ s w b c (by omega) h2 h3};{exact lW s w b c (.inr (.inr ⟨by omega,h2,h3⟩))}};{exact lW s w b c (.inr (.inl ⟨by omega,h2⟩))}}
def aO:Nat->List UInt8->List (List UInt8)
 |0,s=>[s]
 |n+1,s=>if (af 32 s).2.2=ZG then (af 32 s).1::aO n (af 32 s).2.1 else [s]
theorem Gn{n:Nat}(y:List UInt8)(h:(32:UInt8) ∉ x):aO (n+1) (x++32::y)=x::aO n y:=by rw[aO,kV y h,p7 rfl]
theorem Gp{n:Nat}(h:(32:UInt8) ∉ x):aO n x=[x]:=by
 cases n with
 |zero=>rfl
 |succ n=>rw[aO,gB h,nD (by simp)]
theorem Gq{k:Nat}(hf:f<=k)(c:k<S.length)(b:S[k]=32):S.drop f=(S.drop f).take (k - f)++32::S.drop (k+1):=by have h1:=(NZ (k - f) (S.drop f)).symm;rw[List.drop_drop,show f+(k - f)=k by omega,PL c,b] at h1;exact h1
theorem Ea{k:Nat}(hf:f<=k)(hk:k<S.length)(b:S[k]≠32)(hn:(32:UInt8) ∉ (S.drop f).take (k - f)):(32:UInt8) ∉ (S.drop f).take (k+1 - f):=by
 have c:k - f<(S.drop f).length:=by rw[MI];omega
 rw[show k+1 - f=(k - f)+1 by omega,OV c];intro h;rcases p8.1 h with h|h;{exact hn h};{simp only[List.getElem_drop,nL] at h;simp only[show f+(k - f)=k by omega] at h;exact b h.symm}
theorem nW (s:ByteArray)(ZN:Nat)(X:ZN<=3)(w:M)(hs:s.size<=16777216):Calls Pg 60 #[U s,J I ZN] w λe ZL=>∃g cap,e=ZF (Z (T (Q g 0 Y)) (aO ZN s.data.toList).length cap)/\ZL.ownsRow w.heap.size 9 1 (Z (T (Q g 0 Y)) (aO ZN s.data.toList).length cap) (aO ZN s.data.toList).length (cI (aO ZN s.data.toList))/\(aO ZN s.data.toList).length<=4/\Below w.heap.size w ZL:=by
 have W:Hid (s.data.toList.length=s.size):=by show _=_;simp
 obtain⟨ZK,hi,D,H,A⟩:=kF oL;go_enter func60,ntmps60;go_wp2;go_loopw [1,5,6,7] (λZI v p i wr=>∃(k f g cap m:Nat) (L:List (List UInt8)),f<=k/\k<=s.size/\ZI=J I m/\i=J I k/\p=J I f/\v=Z (T (Q g 0 Y)) L.length cap/\Hid (wr.ownsRow w.heap.size 9 1 v L.length (cI L))/\Hid (aO ZN s.data.toList=L++aO m (s.data.toList.drop f))/\Hid ((32:UInt8) ∉ (s.data.toList.drop f).take (k - f))/\L.length+m<=3/\Hid (Below w.heap.size w wr)) (λ_ _ _ i _=>s.size - (intOf i).toNat);case atStart=>exact⟨0,0,w.heap.size,0,ZN,[],by omega,by omega,rfl,rfl,rfl,rfl,Ah w _ _,by simp[Hid],by simp[Hid],by simpa using X,br.alloc ly _⟩
 case round =>
  obtain⟨k,f,g,cap,m,L,C,hks,rfl,rfl,rfl,rfl,t,ZO,ZP,hLk,y⟩:=hrel;have B:w.heap.size<=wr.heap.size:=y.out.size;have c1:(0:Int)<=f:=by omega
  have c2:(f:Int)<=k:=by omega
  have c3:(k:Int)<=s.size:=by omega
  have c4:(f:Int)<=s.size:=by omega
  have fin:∀hc:aO ZN s.data.toList=L++[s.data.toList.drop f],True:=λ_=>trivial;clear fin;by_cases r:k<s.size/\0<m
  ·obtain⟨r,hm0⟩:=r;obtain⟨o,rfl⟩:∃o,m=o+1:=⟨m - 1,by omega⟩
   have j1:(0:Int)<((o+1:Nat):Int):=by omega
   have j2:((o+1:Nat):Int)=(o:Int)+1:=by omega
   have S:(k:Int)<s.size:=by omega
   have F:k<s.data.toList.length:=by rw[W.out];exact r
   have ZQ:=λV=>ixS s (k:Int) k rfl r V;have G:=ae (λh=>Gq C F h);have z:=ae (λh=>Ea C F h ZP.out);generalize s.data.toList[k]=c at ZQ G z;by_cases u:c=32;{subst u;have ZQ:∀V,(Instr.index 9 (U s) (J I (k:Int))).run Pg V=.ok (J .u8 32) V:=ZQ;have R:=ae (G.out rfl);have O:=ae (qy s f k);go_wp2_with (at_builtin;refine BS _ rfl (.tmp 23) (.tmp 28) 66 rfl w.heap.size 9 ZK (U ⟨#[]⟩) 1 16 IH hi D H A rfl (by decide) _ L.length (cI L) (by simp[Act.eval]) (t.out.alloc _) (Q wr.heap.size 0 Y) 1 1 [U (s.extract f k)] (by simp[Act.eval]) rfl (ci wr _ _) (by simp[Value.oneCell']) (by unfold maxLen;omega) (by omega) (by simp;omega) ?_;intro v' ZJ b l n;obtain⟨P,q,rfl⟩:=dl b (by omega);have K:=ae b;have ZM:=ae (bg (y.out.alloc B (N #[U (s.extract f k)] 9)) l (by simp;omega) (λj e=>(t.out.lt j e).1));clear b l n);refine⟨⟨k+1,k+1,P,q,o,L++[(s.data.toList.drop f).take (k - f)],by omega,by omega,by go_num,by go_num,by go_num,by simp,?_,?_,by simp[Hid],by simp;omega,ZM.out⟩,by simp[intOf];omega⟩;{show World.ownsRow _ _ _ _ _ _ _;rw[j5,<-O.out];simp only[cM,eT,nX,F6];exact K.out};{show _=_;rw[ZO.out,R.out,Gn _ ZP.out];rw[<-R.out];simp}};{have hne:((c.toNat:Int) == 32)=ZA:=(by have:¬ (c.toNat:Int)=32:=λe=>u (by rw[<-QG];show c.toNat=32;omega);simpa using this);go_wp2;exact⟨⟨k+1,f,g,cap,o+1,L,by omega,by omega,by go_num,by go_num,rfl,rfl,t.out,ZO.out,z.out u,by omega,y.out⟩,by simp[intOf];omega⟩}
  ·have O:=ae (nE s f);have E:Hid (aO ZN s.data.toList=L++[s.data.toList.drop f]):=by
    show _=_;rw[ZO.out];by_cases hm:m=0;{subst hm;rfl}
    ·obtain rfl:k=s.size:=by omega
     have:=ZP.out;rw[KK (by rw[MI,W.out];omega)] at this;rw[Gp this]
   rcases(show(k:Int)<s.size/\(m:Int)=0∨¬ (k:Int)<s.size by omega) with ⟨S,i2⟩|S;all_goals
    go_wp2_with (at_builtin;refine BS _ rfl (.tmp 34) (.tmp 38) 66 rfl w.heap.size 9 ZK (U ⟨#[]⟩) 1 16 IH hi D H A rfl (by decide) _ L.length (cI L) (by simp[Act.eval]) (t.out.alloc _) (Q wr.heap.size 0 Y) 1 1 [U (s.extract f s.size)] (by simp[Act.eval]) rfl (ci wr _ _) (by simp[Value.oneCell']) (by unfold maxLen;omega) (by omega) (by simp;omega) ?_;intro v' ZJ b l n;obtain⟨P,q,rfl⟩:=dl b (by omega);have K:=ae b;have ZM:=ae (bg (y.out.alloc B (N #[U (s.extract f s.size)] 9)) l (by simp;omega) (λj e=>(t.out.lt j e).1));clear b l n);go_ret;have x:(aO ZN s.data.toList).length=L.length+1:=by rw[E.out];simp
    refine⟨P,q,by rw[x];rfl,?_,by omega,ZM.out⟩;rw[x,E.out,j5,<-O.out];exact K.out
def un (S:List UInt8)(e:Ending):Prop:=(∃n,dW S n/\e=ZF (.tuple #[J I n,.nilIface]))∨((∀n,¬ dW S n)/\∃t p,e=ZF (.tuple #[J I 0,.iface t p]))
theorem Eb (s:ByteArray)(w:M)(hs:s.size<=16777216)(g:EV w 11)(hR:EV w 12):Calls Pg 160 #[U s] w λe b=>((∃v,Lib.atoiAll s.data.toList=.ok v/\e=ZF (.tuple #[J I v,.nilIface]))∨((∀v,Lib.atoiAll s.data.toList≠.ok v)/\∃n t p,e=ZF (.tuple #[J I n,.iface t p])))/\Below w.heap.size w b:=by
 obtain⟨_,i,f,h1⟩:=g;obtain⟨_,j,m,h2⟩:=hR;cases h:Lib.atoiAll s.data.toList with
 |ok v =>
  refine(Tryz.strconv_Atoi_ok s (by omega) v h w).mono ?_;rintro e b ⟨rfl,l⟩;refine⟨.inl ⟨v,rfl,rfl⟩,?_⟩;rcases l with rfl|⟨t,rfl⟩
  {exact eL _ _};{exact Joins.below_bytesWorld _ _ _ _ ly}
 |range =>refine(Tryz.strconv_Atoi_range s (by omega) h _ w h2 (.inr ⟨j,m,rfl⟩)).mono ?_;rintro e b ⟨ZN,rfl,_,_,hb⟩;exact⟨.inr ⟨λv c=>(by cases c),_,_,_,rfl⟩,hb⟩
 |_ =>refine(Tryz.strconv_Atoi_syntax s (by omega) h _ w h1 (.inr ⟨i,f,rfl⟩)).mono ?_;rintro e b ⟨ZN,rfl,_,_,hb⟩;exact⟨.inr ⟨λv c=>(by cases c),_,_,_,rfl⟩,hb⟩
theorem AJ (n:Int)(w:M)(g:-9223372036854775808<=n)(h1:n<=9223372036854775807)(c:Pow w):Calls Pg 24 #[J I n] w λe b=>e=ZF (U ⟨(Lib.itoa n).toArray⟩)/\Below w.heap.size w b:=by refine(Tryz.strconv_Itoa n g h1 _ c).mono ?_;rintro e b ⟨rfl,j,os,f⟩;refine⟨rfl,?_⟩;rw[f];exact jg (os:=os) rfl rfl rfl rfl (by simp)
theorem iz (s:ByteArray)(w:M)(F:s.size<=16777216)(q:EV w 11)(hR:EV w 12)(u:EV w 4)(z:Pow w):Calls Pg 137 #[U s] w λe E=>un s.data.toList e/\Below w.heap.size w E:=by
 have y:=ae (Eb s w F q hR);have C:=ae z;have l:=ae u;clear q hR z u;go_enter func137,ntmps137;go_wp2_with fail;refine y.out.mono ?_;rintro e w1 ⟨h1,b⟩;have i:=ae b;have B:=ae (C.out.aa b ly);obtain⟨hz,G,D,g⟩:=l.out.aa b l.out.1;clear b y;rcases h1 with ⟨v,j,rfl⟩|⟨r,n,t,p,rfl⟩
 ·obtain⟨x,m⟩:=Lib.atoiAll_bounds j;have A:=ae j;clear j;go_wp2_with fail;refine(AJ v _ x m B.out).mono ?_;rintro e w2 ⟨rfl,c⟩;have o:=ae (i.out.trans (c.mono i.out.size));have ⟨hz2,te2,pe2,hev2⟩:=EV.aa ⟨hz,G,D,g⟩ c hz;clear c g;cases heq:(Lib.itoa v == s.toList) with
  |true =>
   have f:Hid (dW s.data.toList v):=⟨by have:=eq_of_beq heq;rw[GC] at this;exact this.symm,x,m⟩
   go_wp2;go_ret2;exact⟨.inl ⟨v,f.out,rfl⟩,o.out⟩
  |false =>
   have f:Hid (∀n,¬ dW s.data.toList n):=λn h=>by
    have h3:=iu h;rw[A.out] at h3;cases h3
    have h4:=h.1;rw[GC,<-h4] at heq;simp at heq
   go_wp2_with fail;go_quiet (fail);go_wp2;go_ret2;exact⟨.inr ⟨f.out,_,_,rfl⟩,AS o.out _⟩
 {have f:Hid (∀n,¬ dW s.data.toList n):=λn h=>r n (iu h);go_wp2_with fail;go_quiet (fail);go_wp2;go_ret2;exact⟨.inr ⟨f.out,_,_,rfl⟩,AS i.out _⟩}
structure Lay (w:M):Prop where
 tw:TabW w
 tb:Tab w
 q:EV w 5
 n:EV w 4
 wd:EV w 0
 op:EV w 6
 bd:EV w 7
 sy:EV w 11
 ra:EV w 12
 pw:Pow w
 pl:3<w.heap.size
theorem xx{f:M}(h:Tab w)(hb:Below B w f)(c:1<B):Tab f :=
 ⟨lj h.1 hb.size,λk b=>⟨(hb.cell (p:=(Q 1 _ Y)) c).trans (h.2 k b).1,(hb.cell (p:=(Q 1 _ Y)) c).trans (h.2 k b).2⟩⟩
theorem Lay.aa{c:M}(h:Lay w)(hb:Below B w c)(b:w.heap.size<=B):Lay c :=
 ⟨h.tw.aa hb (lj h.tb.1 b),xx h.tb hb (lj h.tb.1 b),h.q.aa hb (lj h.q.1 b),h.n.aa hb (lj h.n.1 b),h.wd.aa hb (lj h.wd.1 b),h.op.aa hb (lj h.op.1 b),h.bd.aa hb (lj h.bd.1 b),h.sy.aa hb (lj h.sy.1 b),h.ra.aa hb (lj h.ra.1 b),h.pw.aa hb b,lj h.pl hb.size⟩
theorem Lay.low{f g:M}(b:Lay f)(h:Lay w)(hb:Below B w g)(c:f.heap.size<=B):Lay g :=
 ⟨h.tw.aa hb (lj b.tb.1 c),xx h.tb hb (lj b.tb.1 c),h.q.aa hb (lj b.q.1 c),h.n.aa hb (lj b.n.1 c),h.wd.aa hb (lj b.wd.1 c),h.op.aa hb (lj b.op.1 c),h.bd.aa hb (lj b.bd.1 c),h.sy.aa hb (lj b.sy.1 c),h.ra.aa hb (lj b.ra.1 c),h.pw.low hb (lj b.pl c),lj h.pl hb.size⟩
def RdPost (o:Option I3)(e:Ending):Prop:=match o with
 |some i=>e=ZF (.tuple #[.agg #[J I i.1,U ⟨i.2.1.toArray⟩,J I i.2.2],.nilIface])
 |none=>∃t p,e=ZF (.tuple #[.agg #[J I 0,U ⟨#[]⟩,J I 0],.iface t p])
theorem RdPost.err (h:o=Y){t:TypeId}{p:Value}:RdPost o (ZF (.tuple #[.agg #[J I 0,U ⟨#[]⟩,J I 0],.iface t p])):=by rw[h];exact⟨t,p,rfl⟩
theorem RdPost.ok{k:Int}{t:List UInt8}(h:o=T (k,t,n)):RdPost o (ZF (.tuple #[.agg #[J I k,U ⟨t.toArray⟩,J I n],.nilIface])):=by rw[h];rfl
theorem iA{b:List UInt8}(h:∀op s n,opF (af 32 b).1=op->aG op s.length n=ZG->¬ (if kind op=1 then (af 32 b).2.1=aJ s else if kind op=0 then (af 32 b).2.2=ZA else (af 32 b).2.1=Lib.itoa n)):bA b=Y :=
 pr λi hi=>by obtain⟨h1,h2,h3⟩:=jn.1 hi;exact h _ _ _ h1 h2 h3
theorem oU{line:List UInt8}(h1:opF (af 32 line).1=op)(h2:aG op s.length n=ZG)(h3:if kind op=1 then (af 32 line).2.1=aJ s else if kind op=0 then (af 32 line).2.2=ZA else (af 32 line).2.1=Lib.itoa n):bA line=T (op,s,n) :=
 lI (i:=(op,s,n)) (jn.2 ⟨h1,h2,h3⟩)
theorem AK{sz:Nat}(h:aG op sz n=ZG):(-9223372036854775808<=n/\n<=9223372036854775807):=by obtain⟨h1,_,h3,h4⟩:=ed h;have:=(gE h1).2.2;omega
theorem uo (b:ByteArray)(w:M)(hs:b.size<=16777216)(hL:Lay w)(u:opF (af 32 b.data.toList).1=0):Calls Pg 139 #[U b] w λe G=>RdPost (bA b.data.toList) e/\Below w.heap.size w G:=by
 have H:=aS 32 b.data.toList;rw[aH] at H;have C:=λV=>bQ b 32 V (by unfold maxLen;omega);have ZP:Hid (bA b.data.toList=Y):=iA λop s n h1 h2 _=>by rw[u] at h1;obtain⟨h3,_⟩:=ed h2;omega
 have g:=λV h1 h2=>jJ ⟨(af 32 b.data.toList).1.toArray⟩ V h1 h2;have h:opF ((⟨(af 32 b.data.toList).1.toArray⟩:ByteArray).data.toList)=0:=u;rw[h] at g;clear h;have r:=ae ((q9 w).alloc ly (N #[J I 0,U ⟨#[]⟩,J I 0] 90));have y:=ae (CI.new w (J I 0) (U ⟨#[]⟩) (J I 0));have x:=ae (hL.aa r.out ly);have z0:(w.alloc (N #[J I 0,U ⟨#[]⟩,J I 0] 90)).heap.size=w.heap.size+1:=by simp
 have HL0:=ae hL;clear hL;go_enter UV,UC;go_wp2_with fail;generalize w.alloc (N #[J I 0,U ⟨#[]⟩,J I 0] 90)=A at r y x z0 ⊢;refine(C _).mono ?_;rintro e f ⟨rfl,m,i⟩;have j:Below A.heap.size A f:=by rw[i];exact AS br m
 have B:=ae (r.out.trans (j.mono (by omega)));have E:=ae (y.out.aa j (by omega));have l:=ae (x.out.aa j ly);have z1:f.heap.size=w.heap.size+1:=by rw[i];exact z0
 clear i j r y x z0 C;go_wp2_with fail;refine(g f l.out.tw l.out.tb.1).mono ?_;rintro e G ⟨rfl,t⟩;rw[t];clear t g;have q:=ae (CI.new f (J I 0) (U ⟨#[]⟩) (J I 0));rw[z1] at q;have o:=(q9 f).alloc ly (N #[J I 0,U ⟨#[]⟩,J I 0] 90);have D:=ae (B.out.trans (o.mono (by omega)));have c:=ae (E.out.aa o (by omega));have F:=ae (l.out.aa o ly);clear o;go_upto_region 4 with fail;generalize f.alloc (N #[J I 0,U ⟨#[]⟩,J I 0] 90)=z at q D c F ⊢;clear B E l z1;have z2:w.heap.size<z.heap.size:=c.out.lt;have z2':w.heap.size+1<z.heap.size:=q.out.lt;have i0:=q.out.c0;obtain⟨hzw,te,pe,hev⟩:=F.out.wd;have d0:=c.out.c0;have d1:=c.out.c1;have d2:=c.out.c2;have df0:=c.out.fz 0;have df1:=c.out.fz 1;have df2:=c.out.fz 2;go_wp2;try simp only[Exit.inBlock,Exit.then]
 refine bp (dX rfl _ _ w.heap.size _ _ _ rfl (c.out.all _ _ _)) rfl ?_;exact⟨RdPost.err ZP.out,((D.out.setCell (p:=(Q w.heap.size 0 Y)) ly _).setCell (p:=(Q w.heap.size 1 Y)) ly _).setCell (p:=(Q w.heap.size 2 Y)) ly _⟩
theorem uq (b:ByteArray)(w:M)(hs:b.size<=16777216)(hL:Lay w)(k:Nat)(h1:1<=(k:Int))(h2:(k:Int)<=15)(y:opF (af 32 b.data.toList).1=k)(hm:0<aF k):Calls Pg 139 #[U b] w λe ZN=>RdPost (bA b.data.toList) e/\Below w.heap.size w ZN:=by
 have ph:=aS 32 b.data.toList;rw[aH] at ph;have CU:=λV=>bQ b 32 V (by unfold maxLen;omega);have x:kind k=1:=(eG ⟨h1,h2⟩).1.2 hm;have E:=λV h1 h2=>jJ ⟨(af 32 b.data.toList).1.toArray⟩ V h1 h2;have F:opF ((⟨(af 32 b.data.toList).1.toArray⟩:ByteArray).data.toList)=(k:Int):=y;rw[F] at E;clear F;have ZM:=ae ((q9 w).alloc ly (N #[J I 0,U ⟨#[]⟩,J I 0] 90));have ZK:=ae (CI.new w (J I 0) (U ⟨#[]⟩) (J I 0));have W:=ae (hL.aa ZM.out ly);have z0:(w.alloc (N #[J I 0,U ⟨#[]⟩,J I 0] 90)).heap.size=w.heap.size+1:=by simp
 have R:=ae hL;clear hL;go_enter UV,UC;go_wp2_with fail;generalize w.alloc (N #[J I 0,U ⟨#[]⟩,J I 0] 90)=WA at ZM ZK W z0 ⊢;refine(CU _).mono ?_;rintro e l ⟨rfl,m,C⟩;have ZO:Below WA.heap.size WA l:=by rw[C];exact AS br m
 have A1:=ae (ZM.out.trans (ZO.mono (by omega)));have R1:=ae (ZK.out.aa ZO (by omega));have O:=ae (W.out.aa ZO ly);have z1:l.heap.size=w.heap.size+1:=by rw[C];exact z0
 clear C ZO ZM ZK W z0 CU;go_wp2_with fail;refine(E l O.out.tw O.out.tb.1).mono ?_;rintro e ZN ⟨rfl,S⟩;rw[S];clear S E;have u:=ae (CI.new l (J I (k:Int)) (U ⟨#[]⟩) (J I 0));rw[z1] at u;have K:=(q9 l).alloc ly (N #[J I (k:Int),U ⟨#[]⟩,J I 0] 90);have X:=ae (A1.out.trans (K.mono (by omega)));have L:=ae (R1.out.aa K (by omega));have z:=ae (O.out.aa K ly);clear K;go_upto_region 4 with fail;generalize l.alloc (N #[J I (k:Int),U ⟨#[]⟩,J I 0] 90)=ZI at u X L z ⊢;clear A1 R1 O z1;have z2:w.heap.size<ZI.heap.size:=L.out.lt;have z2':w.heap.size+1<ZI.heap.size:=u.out.lt;have i0:=u.out.c0;have k0:((k:Int) == 0)=ZA:=by simp;omega
 have k16:(k:Int)<16:=by omega
 obtain⟨t1,t2⟩:=z.out.tb.2 k (by omega);have la:=z.out.tb.1;have UQ:=λV h=>kJ ⟨(af 32 b.data.toList).2.1.toArray⟩ V (by show(af 32 b.data.toList).2.1.length<=_;omega) h;generalize aF (k:Int)=mt at t1 hm;generalize bN (k:Int)=mn at t2;go_wp2_with fail;clear t1 t2 i0;refine(UQ _ z.out.q).mono ?_;rintro e B ⟨hu,i⟩;have I3:=ae (u.out.aa i u.out.lt);have P:=ae (L.out.aa i z2);have ZJ:=ae (X.out.trans (i.mono (NK z2)));have L3:=ae (z.out.aa i ly);clear i UQ u L X z la;have z3:w.heap.size<B.heap.size:=P.out.lt;have z3':w.heap.size+1<B.heap.size:=I3.out.lt;have c0:=I3.out.c0;have c1:=I3.out.c1;have c2:=I3.out.c2;have ld:=I3.out.fz 1;rcases hu with ⟨t,ht,rfl⟩|⟨dg,te,pe,rfl⟩
 ·have j:=ae (I3.out.set1 (U ⟨t.toArray⟩));have c:=ae (P.out.other (Q (w.heap.size+1) 1 Y) (by show w.heap.size+1≠w.heap.size;omega) (U ⟨t.toArray⟩));have X4:Below (w.heap.size+1) B (B.setCell (Q (w.heap.size+1) 1 Y) (U ⟨t.toArray⟩)):=br.setCell (p:=(Q (w.heap.size+1) 1 Y)) ly _;have H:=ae (ZJ.out.setCell (p:=(Q (w.heap.size+1) 1 Y)) (by show w.heap.size<=w.heap.size+1;omega) (U ⟨t.toArray⟩));have D:=ae (Lay.low R.out L3.out X4 (by omega));clear X4 I3 P ZJ L3;have o:=ae (λ(h:aG (k:Int) t.length 0=ZG)=>oU (line:=b.data.toList) (s:=t) (n:=0) y h (by rw[p7 x];exact ht));have r:Hid (aG (k:Int) t.length 0=ZA->bA b.data.toList=Y):=λhf=>iA λop s n A ZQ G=>by
   rw[y] at A;subst A;rw[p7 x,show(af 32 b.data.toList).2.1=aJ t from ht] at G;have e4:=(kI (mid:=t.flatMap enc) (by rw[dw]) s).1 G;have e5:=gP e4;obtain⟨_,_,e7,e8⟩:=ed ZQ;have e9:=(gE ⟨h1,h2⟩).2.1 (.inl x);have fd:n=0:=by omega
   rw[<-e5,fd,hf] at ZQ;exact absurd ZQ (by simp)
  go_upto_region 12 with fail;clear c0 c1 c2 ld;generalize B.setCell (Q (w.heap.size+1) 1 Y) (U ⟨t.toArray⟩)=W4 at j c H D ⊢;have z4:w.heap.size<W4.heap.size:=c.out.lt;have aq:w.heap.size+1<W4.heap.size:=j.out.lt;have c0:=j.out.c0;have c1:=j.out.c1;have c2:=j.out.c2;have VI:∀V,Tab V->Calls Pg 163 #[.agg #[J I (k:Int),U ⟨(t).toArray⟩,J I 0]] V λe ZN=>e=ZF (ZD (aG (k:Int) (t).length 0))/\Below V.heap.size V ZN:=λV hV=>gK (k:Int) ⟨(t).toArray⟩ 0 V hV;go_wp2_with fail;refine(VI _ D.out.tb).mono ?_;rintro e w5 ⟨rfl,g⟩;clear c0 c1 c2 VI;have ZL:=ae (j.out.aa g aq);have f:=ae (c.out.aa g z4);have B5:=ae (H.out.trans (g.mono (NK z4)));obtain⟨hzb,te,pe,hbd⟩:=D.out.bd.aa g D.out.bd.1;clear g j c H D;have z5:w.heap.size<w5.heap.size:=f.out.lt;have g6:¬ w.heap.size=7:=by have:=R.out.bd.1;omega
  have g6':¬ 7=w.heap.size:=by omega
  have d0:=f.out.c0;have d1:=f.out.c1;have d2:=f.out.c2;have bt:=f.out.fz 0;have mv:=f.out.fz 1;have n9:=f.out.fz 2;cases hok:aG (k:Int) (t).length 0 with
  |false =>
   have ZP:=ae (r.out hok);clear r o;go_wp2_with fail;go_region;all_goals
    go_wp2;try simp only[Exit.inBlock,Exit.then]
    refine bp (dX rfl _ _ w.heap.size _ _ _ rfl (f.out.all _ _ _)) rfl ?_;exact⟨RdPost.err ZP.out,(((AS B5.out _).setCell (p:=(Q w.heap.size 0 Y)) ly _).setCell (p:=(Q w.heap.size 1 Y)) ly _).setCell (p:=(Q w.heap.size 2 Y)) ly _⟩
  |true =>
   have ZP:=ae (o.out hok);clear r o;have c0:=ZL.out.c0;have c1:=ZL.out.c1;have c2:=ZL.out.c2;go_wp2;try simp only[Exit.inBlock,Exit.then]
   refine bp (dX rfl _ _ w.heap.size _ _ _ rfl (f.out.all _ _ _)) rfl ?_;exact⟨RdPost.ok ZP.out,((B5.out.setCell (p:=(Q w.heap.size 0 Y)) ly _).setCell (p:=(Q w.heap.size 1 Y)) ly _).setCell (p:=(Q w.heap.size 2 Y)) ly _⟩
 ·have ZP:Hid (bA b.data.toList=Y):=iA λop s n A ZQ G=>by
   rw[y] at A;subst A;rw[p7 x] at G;exact dg s G
  have c:=ae (P.out.other (Q (w.heap.size+1) 1 Y) (by show w.heap.size+1≠w.heap.size;omega) (U ⟨#[]⟩));have H:=ae (ZJ.out.setCell (p:=(Q (w.heap.size+1) 1 Y)) (by show w.heap.size<=w.heap.size+1;omega) (U ⟨#[]⟩));have d0:=c.out.c0;have d1:=c.out.c1;have d2:=c.out.c2;have bt:=c.out.fz 0;have mv:=c.out.fz 1;have n9:=c.out.fz 2;go_wp2;try simp only[Exit.inBlock,Exit.then]
  refine bp (dX rfl _ _ w.heap.size _ _ _ rfl (c.out.all _ _ _)) rfl ?_;exact⟨RdPost.err ZP.out,((H.out.setCell (p:=(Q w.heap.size 0 Y)) ly _).setCell (p:=(Q w.heap.size 1 Y)) ly _).setCell (p:=(Q w.heap.size 2 Y)) ly _⟩
theorem vW (f:ByteArray)(w:M)(hs:f.size<=16777216)(hL:Lay w)(k:Nat)(h1:1<=(k:Int))(h2:(k:Int)<=15)(z:opF (af 32 f.data.toList).1=k)(hm:¬ 0<aF k)(ZL:0<bN k):Calls Pg 139 #[U f] w λe O=>RdPost (bA f.data.toList) e/\Below w.heap.size w O:=by
 have ph:=aS 32 f.data.toList;rw[aH] at ph;have CU:=λV=>bQ f 32 V (by unfold maxLen;omega);have y:¬ kind k=1:=λh=>hm ((eG ⟨h1,h2⟩).1.1 h);have C:¬ kind k=0:=λh=>((eG ⟨h1,h2⟩).2.1 h).2 ZL;have G:=λV h1 h2=>jJ ⟨(af 32 f.data.toList).1.toArray⟩ V h1 h2;have H:opF ((⟨(af 32 f.data.toList).1.toArray⟩:ByteArray).data.toList)=(k:Int):=z;rw[H] at G;clear H;have R:=ae ((q9 w).alloc ly (N #[J I 0,U ⟨#[]⟩,J I 0] 90));have X:=ae (CI.new w (J I 0) (U ⟨#[]⟩) (J I 0));have ZJ:=ae (hL.aa R.out ly);have z0:(w.alloc (N #[J I 0,U ⟨#[]⟩,J I 0] 90)).heap.size=w.heap.size+1:=by simp
 have S:=ae hL;clear hL;go_enter UV,UC;go_wp2_with fail;generalize w.alloc (N #[J I 0,U ⟨#[]⟩,J I 0] 90)=WA at R X ZJ z0 ⊢;refine(CU _).mono ?_;rintro e r ⟨rfl,m,E⟩;have L:Below WA.heap.size WA r:=by rw[E];exact AS br m
 have A1:=ae (R.out.trans (L.mono (by omega)));have R1:=ae (X.out.aa L (by omega));have P:=ae (ZJ.out.aa L ly);have z1:r.heap.size=w.heap.size+1:=by rw[E];exact z0
 clear E L R X ZJ z0 CU;go_wp2_with fail;refine(G r P.out.tw P.out.tb.1).mono ?_;rintro e O ⟨rfl,ZK⟩;rw[ZK];clear ZK G;have x:=ae (CI.new r (J I (k:Int)) (U ⟨#[]⟩) (J I 0));rw[z1] at x;have ZQ:=(q9 r).alloc ly (N #[J I (k:Int),U ⟨#[]⟩,J I 0] 90);have ZI:=ae (A1.out.trans (ZQ.mono (by omega)));have ZN:=ae (R1.out.aa ZQ (by omega));have j:=ae (P.out.aa ZQ ly);clear ZQ;go_upto_region 4 with fail;generalize r.alloc (N #[J I (k:Int),U ⟨#[]⟩,J I 0] 90)=W2 at x ZI ZN j ⊢;clear A1 R1 P z1;have z2:w.heap.size<W2.heap.size:=ZN.out.lt;have z2':w.heap.size+1<W2.heap.size:=x.out.lt;have i0:=x.out.c0;have k0:((k:Int) == 0)=ZA:=by simp;omega
 have k16:(k:Int)<16:=by omega
 obtain⟨t1,t2⟩:=j.out.tb.2 k (by omega);have ld:=j.out.tb.1;have UQ:=λV a b c d=>iz ⟨(af 32 f.data.toList).2.1.toArray⟩ V (by show(af 32 f.data.toList).2.1.length<=_;omega) a b c d;generalize aF (k:Int)=mt at t1 hm;generalize bN (k:Int)=mn at t2 ZL;go_wp2_with fail;clear t1 t2 i0;refine(UQ _ j.out.sy j.out.ra j.out.n j.out.pw).mono ?_;rintro e D ⟨hu,o⟩;have I3:=ae (x.out.aa o x.out.lt);have ZM:=ae (ZN.out.aa o z2);have B3:=ae (ZI.out.trans (o.mono (NK z2)));have L3:=ae (j.out.aa o ly);clear o UQ x ZN ZI j ld;have z3:w.heap.size<D.heap.size:=ZM.out.lt;have z3':w.heap.size+1<D.heap.size:=I3.out.lt;have c0:=I3.out.c0;have c1:=I3.out.c1;have c2:=I3.out.c2;have la:=I3.out.fz 2;rcases hu with ⟨n,hn,rfl⟩|⟨dg,te,pe,rfl⟩
 ·have q:=ae (I3.out.set2 (J I n));have g:=ae (ZM.out.other (Q (w.heap.size+1) 2 Y) (by show w.heap.size+1≠w.heap.size;omega) (J I n));have X4:Below (w.heap.size+1) D (D.setCell (Q (w.heap.size+1) 2 Y) (J I n)):=br.setCell (p:=(Q (w.heap.size+1) 2 Y)) ly _;have ZO:=ae (B3.out.setCell (p:=(Q (w.heap.size+1) 2 Y)) (by show w.heap.size<=w.heap.size+1;omega) (J I n));have F:=ae (Lay.low S.out L3.out X4 (by omega));clear X4 I3 ZM B3 L3;have t:=ae (λ(h:aG (k:Int) ([]:List UInt8).length n=ZG)=>oU (line:=f.data.toList) (s:=[]) (n:=n) z h (by rw[nD y,nD C];exact hn.1));have u:Hid (aG (k:Int) ([]:List UInt8).length n=ZA->bA f.data.toList=Y):=λhf=>iA λop s n' B A ZP=>by
   rw[z] at B;subst B;rw[nD y,nD C] at ZP;have e4:=iu (s:=(af 32 f.data.toList).2.1) ⟨ZP,AK A⟩;have e5:Lib.atoiAll (af 32 f.data.toList).2.1=.ok n:=iu hn;rw[e5] at e4;cases e4
   obtain⟨_,e6,_,_⟩:=ed A;have e9:=(gE ⟨h1,h2⟩).1 y;have fd:s.length=0:=by omega
   rw[fd] at A;rw[show([]:List UInt8).length=0 from rfl,A] at hf;exact absurd hf (by simp)
  go_upto_region 12 with fail;clear c0 c1 c2 la;generalize D.setCell (Q (w.heap.size+1) 2 Y) (J I n)=W4 at q g ZO F ⊢;have z4:w.heap.size<W4.heap.size:=g.out.lt;have aq:w.heap.size+1<W4.heap.size:=q.out.lt;have c0:=q.out.c0;have c1:=q.out.c1;have c2:=q.out.c2;have VI:∀V,Tab V->Calls Pg 163 #[.agg #[J I (k:Int),U ⟨([]:List UInt8).toArray⟩,J I n]] V λe O=>e=ZF (ZD (aG (k:Int) ([]:List UInt8).length n))/\Below V.heap.size V O:=λV hV=>gK (k:Int) ⟨([]:List UInt8).toArray⟩ n V hV;go_wp2_with fail;refine(VI _ F.out.tb).mono ?_;rintro e w5 ⟨rfl,l⟩;clear c0 c1 c2 VI;have W:=ae (q.out.aa l aq);have i:=ae (g.out.aa l z4);have B5:=ae (ZO.out.trans (l.mono (NK z4)));obtain⟨hzb,te,pe,hbd⟩:=F.out.bd.aa l F.out.bd.1;clear l q g ZO F;have z5:w.heap.size<w5.heap.size:=i.out.lt;have g6:¬ w.heap.size=7:=by have:=S.out.bd.1;omega
  have g6':¬ 7=w.heap.size:=by omega
  have d0:=i.out.c0;have d1:=i.out.c1;have d2:=i.out.c2;have bt:=i.out.fz 0;have mv:=i.out.fz 1;have n9:=i.out.fz 2;cases hok:aG (k:Int) ([]:List UInt8).length n with
  |false =>
   have K:=ae (u.out hok);clear u t;go_wp2_with fail;go_region;all_goals
    go_wp2;try simp only[Exit.inBlock,Exit.then]
    refine bp (dX rfl _ _ w.heap.size _ _ _ rfl (i.out.all _ _ _)) rfl ?_;exact⟨RdPost.err K.out,(((AS B5.out _).setCell (p:=(Q w.heap.size 0 Y)) ly _).setCell (p:=(Q w.heap.size 1 Y)) ly _).setCell (p:=(Q w.heap.size 2 Y)) ly _⟩
  |true =>
   have K:=ae (t.out hok);clear u t;have c0:=W.out.c0;have c1:=W.out.c1;have c2:=W.out.c2;go_wp2;try simp only[Exit.inBlock,Exit.then]
   refine bp (dX rfl _ _ w.heap.size _ _ _ rfl (i.out.all _ _ _)) rfl ?_;exact⟨RdPost.ok K.out,((B5.out.setCell (p:=(Q w.heap.size 0 Y)) ly _).setCell (p:=(Q w.heap.size 1 Y)) ly _).setCell (p:=(Q w.heap.size 2 Y)) ly _⟩
 ·have K:Hid (bA f.data.toList=Y):=iA λop s n B A ZP=>by
   rw[z] at B;subst B;rw[nD y,nD C] at ZP;exact dg n ⟨ZP,AK A⟩
  have g:=ae (ZM.out.other (Q (w.heap.size+1) 2 Y) (by show w.heap.size+1≠w.heap.size;omega) (J I 0));have ZO:=ae (B3.out.setCell (p:=(Q (w.heap.size+1) 2 Y)) (by show w.heap.size<=w.heap.size+1;omega) (J I 0));have d0:=g.out.c0;have d1:=g.out.c1;have d2:=g.out.c2;have bt:=g.out.fz 0;have mv:=g.out.fz 1;have n9:=g.out.fz 2;go_wp2;try simp only[Exit.inBlock,Exit.then]
  refine bp (dX rfl _ _ w.heap.size _ _ _ rfl (g.out.all _ _ _)) rfl ?_;exact⟨RdPost.err K.out,((ZO.out.setCell (p:=(Q w.heap.size 0 Y)) ly _).setCell (p:=(Q w.heap.size 1 Y)) ly _).setCell (p:=(Q w.heap.size 2 Y)) ly _⟩
theorem qG (b:ByteArray)(w:M)(hs:b.size<=16777216)(hL:Lay w)(k:Nat)(h1:1<=(k:Int))(h2:(k:Int)<=15)(B:opF (af 32 b.data.toList).1=k)(E:¬ 0<aF k)(A:¬ 0<bN k)(ZQ:(af 32 b.data.toList).2.2=ZG):Calls Pg 139 #[U b] w λe ZN=>RdPost (bA b.data.toList) e/\Below w.heap.size w ZN:=by
 have P:=aS 32 b.data.toList;rw[aH] at P;have ZO:=λV=>bQ b 32 V (by unfold maxLen;omega);have z:¬ kind k=1:=λh=>E ((eG ⟨h1,h2⟩).1.1 h);have x:kind k=0:=(eG ⟨h1,h2⟩).2.2 ⟨E,A⟩;have S:Hid (bA b.data.toList=Y):=iA λop s n G e2 O=>by rw[B] at G;subst G;rw[nD z,p7 x,ZQ] at O;exact absurd O (by simp)
 clear z x;have g:=λV h1 h2=>jJ ⟨(af 32 b.data.toList).1.toArray⟩ V h1 h2;have i:opF ((⟨(af 32 b.data.toList).1.toArray⟩:ByteArray).data.toList)=(k:Int):=B;rw[i] at g;clear i;have u:=ae ((q9 w).alloc ly (N #[J I 0,U ⟨#[]⟩,J I 0] 90));have D:=ae (CI.new w (J I 0) (U ⟨#[]⟩) (J I 0));have C:=ae (hL.aa u.out ly);have z0:(w.alloc (N #[J I 0,U ⟨#[]⟩,J I 0] 90)).heap.size=w.heap.size+1:=by simp
 have HL0:=ae hL;clear hL;go_enter UV,UC;go_wp2_with fail;generalize w.alloc (N #[J I 0,U ⟨#[]⟩,J I 0] 90)=H at u D C z0 ⊢;refine(ZO _).mono ?_;rintro e f ⟨rfl,m,j⟩;have l:Below H.heap.size H f:=by rw[j];exact AS br m
 have ZP:=ae (u.out.trans (l.mono (by omega)));have L:=ae (D.out.aa l (by omega));have o:=ae (C.out.aa l ly);have z1:f.heap.size=w.heap.size+1:=by rw[j];exact z0
 clear j l u D C z0 ZO;go_wp2_with fail;refine(g f o.out.tw o.out.tb.1).mono ?_;rintro e ZN ⟨rfl,y⟩;rw[y];clear y g;have t:=ae (CI.new f (J I (k:Int)) (U ⟨#[]⟩) (J I 0));rw[z1] at t;have q:=(q9 f).alloc ly (N #[J I (k:Int),U ⟨#[]⟩,J I 0] 90);have K:=ae (ZP.out.trans (q.mono (by omega)));have c:=ae (L.out.aa q (by omega));have r:=ae (o.out.aa q ly);clear q;go_upto_region 4 with fail;generalize f.alloc (N #[J I (k:Int),U ⟨#[]⟩,J I 0] 90)=F at t K c r ⊢;clear ZP L o z1;have z2:w.heap.size<F.heap.size:=c.out.lt;have z2':w.heap.size+1<F.heap.size:=t.out.lt;have i0:=t.out.c0;have k0:((k:Int) == 0)=ZA:=by simp;omega
 have k16:(k:Int)<16:=by omega
 obtain⟨ZM,R⟩:=r.out.tb.2 k (by omega);have hrw:=r.out.tb.1;generalize aF (k:Int)=mt at ZM E;generalize bN (k:Int)=mn at R A;obtain⟨hzo,te,pe,hev⟩:=r.out.op;have d0:=c.out.c0;have d1:=c.out.c1;have d2:=c.out.c2;have df0:=c.out.fz 0;have df1:=c.out.fz 1;have df2:=c.out.fz 2;go_wp2;try simp only[Exit.inBlock,Exit.then]
 refine bp (dX rfl _ _ w.heap.size _ _ _ rfl (c.out.all _ _ _)) rfl ?_;exact⟨RdPost.err S.out,((K.out.setCell (p:=(Q w.heap.size 0 Y)) ly _).setCell (p:=(Q w.heap.size 1 Y)) ly _).setCell (p:=(Q w.heap.size 2 Y)) ly _⟩
theorem us (b:ByteArray)(w:M)(hs:b.size<=16777216)(hL:Lay w)(k:Nat)(h1:1<=(k:Int))(h2:(k:Int)<=15)(A:opF (af 32 b.data.toList).1=k)(ZM:¬ 0<aF k)(ZP:¬ 0<bN k)(bt:(af 32 b.data.toList).2.2=ZA):Calls Pg 139 #[U b] w λe F=>RdPost (bA b.data.toList) e/\Below w.heap.size w F:=by
 have mv:=aS 32 b.data.toList;rw[aH] at mv;have ZJ:=λV=>bQ b 32 V (by unfold maxLen;omega);have r:¬ kind k=1:=λh=>ZM ((eG ⟨h1,h2⟩).1.1 h);have q:kind k=0:=(eG ⟨h1,h2⟩).2.2 ⟨ZM,ZP⟩;have j:=ae (λ(h:aG (k:Int) ([]:List UInt8).length 0=ZG)=>oU (line:=b.data.toList) (s:=[]) (n:=0) A h (by rw[nD r,p7 q];exact bt));have l:Hid (aG (k:Int) ([]:List UInt8).length 0=ZA->bA b.data.toList=Y):=λhf=>iA λop s n' W ZQ e3=>by
  rw[A] at W;subst W;obtain⟨_,e6,e7,e8⟩:=ed ZQ;have e9:=(gE ⟨h1,h2⟩).1 r;have e10:=(gE ⟨h1,h2⟩).2.1 (.inr q);have aq:s.length=0:=by omega
  have la:n'=0:=by omega
  rw[aq,la] at ZQ;rw[show([]:List UInt8).length=0 from rfl,ZQ] at hf;exact absurd hf (by simp)
 clear r q;have y:=λV h1 h2=>jJ ⟨(af 32 b.data.toList).1.toArray⟩ V h1 h2;have z:opF ((⟨(af 32 b.data.toList).1.toArray⟩:ByteArray).data.toList)=(k:Int):=A;rw[z] at y;clear z;have H:=ae ((q9 w).alloc ly (N #[J I 0,U ⟨#[]⟩,J I 0] 90));have ZN:=ae (CI.new w (J I 0) (U ⟨#[]⟩) (J I 0));have O:=ae (hL.aa H.out ly);have z0:(w.alloc (N #[J I 0,U ⟨#[]⟩,J I 0] 90)).heap.size=w.heap.size+1:=by simp
 have fd:=ae hL;clear hL;go_enter UV,UC;go_wp2_with fail;generalize w.alloc (N #[J I 0,U ⟨#[]⟩,J I 0] 90)=WA at H ZN O z0 ⊢;refine(ZJ _).mono ?_;rintro e i ⟨rfl,m,t⟩;have B:Below WA.heap.size WA i:=by rw[t];exact AS br m
 have X:=ae (H.out.trans (B.mono (by omega)));have ZI:=ae (ZN.out.aa B (by omega));have G:=ae (O.out.aa B ly);have z1:i.heap.size=w.heap.size+1:=by rw[t];exact z0
 clear t B H ZN O z0 ZJ;go_wp2_with fail;refine(y i G.out.tw G.out.tb.1).mono ?_;rintro e F ⟨rfl,ZO⟩;rw[ZO];clear ZO y;have o:=ae (CI.new i (J I (k:Int)) (U ⟨#[]⟩) (J I 0));rw[z1] at o;have C:=(q9 i).alloc ly (N #[J I (k:Int),U ⟨#[]⟩,J I 0] 90);have P:=ae (X.out.trans (C.mono (by omega)));have D:=ae (ZI.out.aa C (by omega));have x:=ae (G.out.aa C ly);clear C;go_upto_region 4 with fail;generalize i.alloc (N #[J I (k:Int),U ⟨#[]⟩,J I 0] 90)=K at o P D x ⊢;clear X ZI G z1;have z2:w.heap.size<K.heap.size:=D.out.lt;have dg:w.heap.size+1<K.heap.size:=o.out.lt;have i0:=o.out.c0;have k0:((k:Int) == 0)=ZA:=by simp;omega
 have k16:(k:Int)<16:=by omega
 obtain⟨ZK,t2⟩:=x.out.tb.2 k (by omega);have ld:=x.out.tb.1;generalize aF (k:Int)=mt at ZK ZM;generalize bN (k:Int)=mn at t2 ZP;go_upto_region 12 with fail;clear ZK t2 i0 ld;have g:=o;have E:=D;have R:=P;have u:=x;clear o D P x;generalize K=W4 at g E R u z2 dg ⊢;have z4:w.heap.size<W4.heap.size:=E.out.lt;have ZL:w.heap.size+1<W4.heap.size:=g.out.lt;have c0:=g.out.c0;have c1:=g.out.c1;have c2:=g.out.c2;have VI:∀V,Tab V->Calls Pg 163 #[.agg #[J I (k:Int),U ⟨([]:List UInt8).toArray⟩,J I 0]] V λe F=>e=ZF (ZD (aG (k:Int) ([]:List UInt8).length 0))/\Below V.heap.size V F:=λV hV=>gK (k:Int) ⟨([]:List UInt8).toArray⟩ 0 V hV;go_wp2_with fail;refine(VI _ u.out.tb).mono ?_;rintro e w5 ⟨rfl,f⟩;clear c0 c1 c2 VI;have L:=ae (g.out.aa f ZL);have c:=ae (E.out.aa f z4);have B5:=ae (R.out.trans (f.mono (NK z4)));obtain⟨hzb,te,pe,hbd⟩:=u.out.bd.aa f u.out.bd.1;clear f g E R u;have z5:w.heap.size<w5.heap.size:=c.out.lt;have g6:¬ w.heap.size=7:=by have:=fd.out.bd.1;omega
 have g6':¬ 7=w.heap.size:=by omega
 have d0:=c.out.c0;have d1:=c.out.c1;have d2:=c.out.c2;have df0:=c.out.fz 0;have df1:=c.out.fz 1;have df2:=c.out.fz 2;cases hok:aG (k:Int) ([]:List UInt8).length 0 with
 |false =>
  have S:=ae (l.out hok);clear l j;go_wp2_with fail;go_region;all_goals
   go_wp2;try simp only[Exit.inBlock,Exit.then]
   refine bp (dX rfl _ _ w.heap.size _ _ _ rfl (c.out.all _ _ _)) rfl ?_;exact⟨RdPost.err S.out,(((AS B5.out _).setCell (p:=(Q w.heap.size 0 Y)) ly _).setCell (p:=(Q w.heap.size 1 Y)) ly _).setCell (p:=(Q w.heap.size 2 Y)) ly _⟩
 |true =>
  have S:=ae (j.out hok);clear l j;have c0:=L.out.c0;have c1:=L.out.c1;have c2:=L.out.c2;go_wp2;try simp only[Exit.inBlock,Exit.then]
  refine bp (dX rfl _ _ w.heap.size _ _ _ rfl (c.out.all _ _ _)) rfl ?_;exact⟨RdPost.ok S.out,((B5.out.setCell (p:=(Q w.heap.size 0 Y)) ly _).setCell (p:=(Q w.heap.size 1 Y)) ly _).setCell (p:=(Q w.heap.size 2 Y)) ly _⟩
theorem vX (b:ByteArray)(w:M)(f:b.size<=16777216)(hL:Lay w):Calls Pg 139 #[U b] w λe j=>RdPost (bA b.data.toList) e/\Below w.heap.size w j:=by
 rcases qv (af 32 b.data.toList).1 with ⟨i,_⟩|⟨h1,h2,_⟩
 {exact uo b w f hL i}
 ·obtain⟨k,c⟩:=BC (show 0<=opF (af 32 b.data.toList).1 by omega);have h1:1<=(k:Int):=by rw[<-c];exact h1
  have h2:(k:Int)<=15:=by rw[<-c];exact h2
  by_cases h:0<aF k;{exact uq b w f hL k h1 h2 c h}
  ·by_cases g:0<bN k;{exact vW b w f hL k h1 h2 c h g}
   ·cases hsp:(af 32 b.data.toList).2.2 with
    |true=>exact qG b w f hL k h1 h2 c h g hsp
    |false=>exact us b w f hL k h1 h2 c h g hsp
