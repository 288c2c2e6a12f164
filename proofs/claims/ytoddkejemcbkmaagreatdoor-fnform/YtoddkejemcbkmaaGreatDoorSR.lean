import Derived.Test.YtoddkejemcbkmaaGreatDoorSM
import Derived.Lib.AppendStr
import Derived.Deep.RegionLaw
set_option maxRecDepth 100000
set_option maxHeartbeats 2000000
open Go renaming Addr.mk->Q,Value.slice->Z,Value.string->U,Value.int->J,IntKind.i64->I,World->M,Value->ZC,Ending.returned->ZF,World.heap->A,Proofs.Tryz.prog->Pg
open Option renaming none->Y,some->T
open Bool renaming false->ZA,true->ZG
open Array renaming size->N
namespace Go.Proofs.YtoddkejemcbkmaaGreatDoor.Vp
open Tryz RowKit
variable {w:M}{base g:Nat}{l:List UInt8}{o:Oper}{a:Act}{ZM:Exit->Act->M->Prop}{p:Array Oper}{rest:List Oper}
theorem xY:(Pg.info? 5).map (λi=>(i.zero,i.size,i.bytes))=T (T (J .u8 0),1,1):=by kernel_rfl
def Bs (w:M)(base:Nat)(v:ZC)(l:List UInt8):Prop:=w.ownsRow base 5 1 v l.length (Lib.byteCells l)
theorem Bs.aq{v:ZC}(h:Bs w base v l)(b:l≠[]):∃g cap,v=Z (T (Q g 0 Y)) l.length cap/\base<=g/\g<N (A w):=by
 have c:0<l.length:=by cases l with|nil=>exact absurd rfl b|cons _ _=>simp
 obtain⟨g,cap,e⟩:=Joins.ownsRow_form h c;have:=h.lt g (by rw[e];rfl);exact⟨g,cap,e,this.1,this.2⟩
theorem Bs.aa{f:M}{B:Nat}{v:ZC}(h:Bs w base v l)(hb:Below B w f)(j:N (A w)<=B):Bs f base v l:=by
 refine⟨h.1,?_⟩;rcases h.2 with hn|⟨g,cap,c,m,i,b,r⟩
 {exact .inl hn};{exact .inr ⟨g,cap,c,m,i,by rw[hb.block g (lj (gM.1 b).1 j)];exact b,r⟩}
theorem Bs.cell{cap n:Nat}(h:Bs w base (Z (T (Q g 0 Y)) n cap) l)(j:Nat)(b:j<l.length):w.cell? (((Q g 0 Y):Addr).add j)=T (J .u8 l[j].toNat):=by refine SH h (g:=g) rfl j _ ?_;simp[Lib.byteCells,b]
theorem Bs.lit (w:M)(base:Nat)(l:List UInt8)(hb:base<=N (A w))(f:l.length<=maxLen)(b:Array ZC)(c:b.toList=Lib.byteCells l):Bs (w.alloc (.cells b 5)) base (Z (T (Q (N (A w)) 0 Y)) l.length l.length) l:=by have h:=World.ownsRow_lit (base:=base) (e:=5) (size:=1) w b l.length hb f (by rw[<-NY,c];simp[Lib.byteCells]);rw[c] at h;exact h
theorem wV (w:M)(g:Nat)(ty:TypeId)(v:ZC)(l:List UInt8)(s:Bs w g v l)(r:Addr)(c:Nat)(f:List UInt8)
  (m:∀j (h:j<f.length),w.cell? (r.add j)=T (J .u8 f[j].toNat)) (hb:l.length+f.length<=140737488355328) (o:g<=N (A w)) :
  ∃p n,(Builtin.append_ #[22,22] ty #[v,Z (T r) f.length c]).run Pg w=.ok p n/\Bs n g p (l++f)/\w.grownBy n v.ownBlock:=by
 obtain⟨i,hi,hz⟩:=MN.1 xY;simp only[MG] at hz;obtain⟨h1,h2,h3⟩:=hz;obtain⟨p,n,z,ZR,y,_⟩:=run_append_own (P:=Pg) w g 22 ty 5 i (J .u8 0) 1 1 MF hi h1 h2 h3 rfl (by decide) v l.length (Lib.byteCells l) s r f.length c (Lib.byteCells f)
  (by simp[Lib.byteCells]) (λj u t=>by
   have q:j<f.length:=by have:=(p6.1 t).1;simpa[Lib.byteCells] using this
   rw[m j q];simp only[Lib.byteCells,MK,gq q,SV,MU] at t
   rw[<-t])
  (λu x=>by simp only[Lib.byteCells,PC] at x;obtain⟨b,_,rfl⟩:=x;rfl) (by unfold maxLen;omega) (by omega) o
 refine⟨p,n,z,?_,y⟩;unfold Bs;rw[cM];have e:Lib.byteCells (l++f)=Lib.byteCells l++Lib.byteCells f:=by simp[Lib.byteCells]
 rw[e];exact ZR
theorem mG (t:o.guard=Y)(s x:Operand)
  (B:o.op=.call { callee:=.builtin .append,args:=#[s,x],argTypes:=#[22,22] }) (b:Nat) (v:ZC) (l:List UInt8) (z:a.eval s=v) (r:Bs w b v l)
  (q:Addr) (c:Nat) (f:List UInt8) (y:a.eval x=Z (T q) f.length c)
  (g:∀j (h:j<f.length),w.cell? (q.add j)=T (J .u8 f[j].toNat)) (hb:l.length+f.length<=140737488355328) (m:b<=N (A w))
  (h:∀n i,Bs i b n (l++f)->w.grownBy i v.ownBlock->wpList Pg p ZM rest (a.put o.dst n) i):wpList Pg p ZM (o::rest) a w:=by
 refine wpList_plain t λK u=>?_;obtain⟨n,i,ZR,h2,h3⟩:=wV w b o.type v l r q c f g hb m;unfold Oper.wp execOp;simp only[B,resolve,invoke,builtin,UO,UR,RB,RY,MX,MZ,z,y,ZR];exact u _ _ (h n i h2 h3)
theorem gi{K:Act->M->Prop}{E:Prop}(t:o.guard=Y)(s x:Operand)
  (ZR:o.op=.call { callee:=.builtin .append,args:=#[s,x],argTypes:=#[22,22] }) (b:Nat) (v:ZC) (l:List UInt8) (y:a.eval s=v) (r:Bs w b v l)
  (q:Addr) (c:Nat) (f:List UInt8) (u:a.eval x=Z (T q) f.length c)
  (g:∀j (h:j<f.length),w.cell? (q.add j)=T (J .u8 f[j].toNat)) (hb:l.length+f.length<=140737488355328) (m:b<=N (A w))
  (h:∀n i,Bs i b n (l++f)->w.grownBy i v.ownBlock->K (a.put o.dst n) i):if Region.wanted o (yielded p a.tmps)=ZG then Oper.wp Pg o a w K ZM else E:=by
 have B:Region.wanted o (yielded p a.tmps)=ZG:=by simp[Region.wanted,t]
 rw[p7 B];obtain⟨n,i,z,h2,h3⟩:=wV w b o.type v l r q c f g hb m;unfold Oper.wp;simp[execOp,ZR,resolve,invoke,builtin,y,u,z,Result.andThen];exact h n i h2 h3
theorem xZ{m:Array Oper}(p:o.guard=Y)(sl x:Operand)
  (y:o.op=.call { callee:=.builtin .append,args:=#[sl,x],argTypes:=#[22,9] }) (b:Nat) (v:ZC) (l:List UInt8) (u:a.eval sl=v) (n:Bs w b v l)
  (c:List UInt8) (t:a.eval x=U ⟨c.toArray⟩) (hb:l.length+c.length<=140737488355328) (g:b<=N (A w))
  (h:∀j f,Bs f b j (l++c)->w.grownBy f v.ownBlock->wpList Pg m ZM rest (a.put o.dst j) f):wpList Pg m ZM (o::rest) a w:=by
 obtain⟨i,hi,hz⟩:=MN.1 xY;simp only[MG] at hz;obtain⟨h1,h2,h3⟩:=hz;have r:(⟨c.toArray⟩:ByteArray).size=c.length:=by simp[ByteArray.size]
 refine Lib.wpList_append_own_string w p sl x 22 9 y b 5 i MF IN hi h1 h2 h3 v l.length (Lib.byteCells l) u n ⟨c.toArray⟩ t (by unfold maxLen;omega) (by omega) g ?_;intro j f q s _;refine h j f ?_ s;unfold Bs;rw[r] at q;have e:Lib.byteCells (l++c)=Lib.byteCells l++Lib.strCells ⟨c.toArray⟩:=by simp[Lib.byteCells,Lib.strCells]
 rw[cM,e];exact q
theorem Cv (w:M)(b:Nat)(v:ZC)(l:List UInt8)(h:Bs w b v l)(f:l≠[]):(convert 22 9 v).run Pg w=.ok (U ⟨l.toArray⟩) w:=by obtain⟨g,cap,rfl,_,_⟩:=h.aq f;exact OU w 22 9 5 (Q g 0 Y) cap l MF ND IN (λj c=>h.cell j c)
theorem gA{b:UInt8}(h:w.cell? (Q g 0 Y)=T (J .u8 b.toNat)):∀j (c:j < [b].length),w.cell? (((Q g 0 Y):Addr).add j)=T (J .u8 [b][j].toNat):=by
 intro j c;obtain rfl:j=0:=by simpa using c
 simpa[Addr.add] using h
def x9 (w:M)(h:Nat)(c:UInt8):Prop:=∀j (hj:j<(dT c).length),w.cell? (((Q h 0 Y):Addr).add j)=T (J .u8 (dT c)[j].toNat)
theorem Cw (c:UInt8)(w:M):Calls Pg 98 #[J .u8 c.toNat] w λe b=>e=ZF (Z (T (Q (N (A w)) 0 Y)) 2 2)/\x9 b (N (A w)) c/\(N (A w))<N (A b)/\Below (N (A w)) w b :=
 (zN c w).mono λ_ _ ⟨h,f,hb⟩=>⟨h,λj g=>Bs.cell (l:=dT c) f j g,(f.lt (N (A w)) rfl).2,hb⟩
set_option linter.unusedSimpArgs false in
theorem kE (s:ByteArray)(w:M)(hs:s.size<=2000):Calls Pg 52 #[U s] w λe ZR=>e=ZF (U ⟨(aJ s.data.toList).toArray⟩)/\Below (N (A w)) w ZR:=by
  go_enter func52,ntmps52;go_wp2;go_loopw [3,4] (λv i wr=>∃k:Nat,k<=s.size/\i=J I k/\Bs wr (N (A w)) v (qTo s.data.toList k)/\Below (N (A w)) w wr) (λ_ i _=>s.size - (intOf i).toNat);case atStart=>exact⟨0,by omega,rfl,Bs.lit w _ [34] ly (by unfold maxLen;simp) _ rfl,br.alloc ly _⟩
  case round =>
    obtain⟨k,hk,rfl,X,R⟩:=hrel;have C:=ae R;have z:=ae X;have r:N (A w)<=N (A wr):=R.size;clear R X;have hql:=tr s.data.toList k;obtain⟨g,cap,rfl,hg0,hg1⟩:=z.out.aq (Hq _ _);by_cases ZL:k<s.size
    · have L:=ae (tq s k ZL);have hc:=s[k].toNat_lt;by_cases ZO:32<=(s[k].toNat:Int)/\(s[k].toNat:Int)<=126/\((s[k].toNat:Int) != 34)=ZG/\((s[k].toNat:Int) != 92)=ZG
      · obtain⟨K,S,V,p4⟩:=ZO;go_wp2_with (at_builtin;refine mG rfl _ _ rfl (N (A w)) _ (qTo s.data.toList k) rfl ?h1 (Q (N (A wr)) 0 Y) 1 [s[k]] rfl ?h2 ?h3 ?h4 ?_);case h1=>exact z.out.aa (br.alloc ly _) ly
        case h2 =>
          intro j hj;obtain rfl:j=0:=by simpa using hj
          simp[Addr.add]
        case h3=>simp only[eT,nX];omega
        case h4=>simp;omega
        intro ZI ZR y u;have ZK:=ae y;have D:Hid (Below (N (A w)) w ZR):=(C.out.alloc r _).grown u (by simp;omega) (λx f=>by simp[Value.ownBlock] at f;omega);clear y u;go_wp2;exact⟨⟨k+1,by omega,by go_num,by rw[L.out];unfold enc;rw[p7 (by simp[b9] at *;omega)];exact ZK.out,D.out⟩,by simp[intOf];omega⟩
      · have hn:(s[k].toNat:Int)<32∨(32<=(s[k].toNat:Int)/\126<(s[k].toNat:Int))∨(32<=(s[k].toNat:Int)/\(s[k].toNat:Int)<=126/\((s[k].toNat:Int) != 34)=ZA)∨(32<=(s[k].toNat:Int)/\(s[k].toNat:Int)<=126/\((s[k].toNat:Int) != 34)=ZG/\((s[k].toNat:Int) != 92)=ZA):=by
          simp only[VK,ne_eq,bne_eq_false_iff_eq] at ZO ⊢;omega
        have HE:Hid (enc s[k]=[92]++dT s[k]):=by
          show enc s[k]=[92]++dT s[k];unfold enc;rw[nD];{rfl};{simp only[VK,ne_eq] at ZO;simp[b9];omega}
        clear ZO;rcases hn with K|⟨K,S⟩|⟨K,S,V⟩|⟨K,S,V,p4⟩
        all_goals
          go_wp2_with fail
          go_region_law (first
            | (refine gi rfl (.tmp 40) (.tmp 41) rfl (N (A w)) (Z (T (Q g 0 Y)) (qTo s.data.toList k).length cap) (qTo s.data.toList k) (by simp[Act.eval,Act.put]) ?_ (Q (N (A wr)) 0 Y) 1 [92] (by simp[Act.eval,Act.put]) ?_ ?_ ?_ ?_
               · exact z.out.aa (br.alloc ly _).drew ly
               · exact gA (by simp)
               · simp only[cM,eT,nX,dT];omega
               · first|(simp;omega)|omega
               intro ZJ o b c;obtain⟨B,q,rfl,P,O⟩:=b.aq (by simp);have t:=ae b;have n:Hid (Below (N (A w)) w o):=bg ((C.out.alloc r _).drew) c (by first|(simp;omega)|omega) (λx f=>by simp[Value.ownBlock] at f;omega);have ZP:N (A w)<=N (A o):=n.out.size
               clear b c)
            | (refine gi rfl (.tmp 42) (.tmp 46) rfl (N (A w)) (Z (T (Q B 0 Y)) (qTo s.data.toList k++[92]).length q) (qTo s.data.toList k++[92]) (by simp[Act.eval,Act.put]) ?_ (Q (N (A o)) 0 Y) 2 (dT s[k]) (by simp[Act.eval,Act.put,dT]) ?_ ?_ ?_ ?_
               · exact t.out.aa h.out ly
               · exact ZM.out
               · simp only[cM,eT,nX,dT];omega
               · first|(simp;omega)|omega
               intro W H m l;have E:=ae m;have F:Hid (Below (N (A w)) w H):=bg (n.out.trans (h.out.mono ZP)) l (by first|(simp;omega)|omega) (λx f=>by simp[Value.ownBlock] at f;omega)
               clear m l)
            | (refine gi rfl (.tmp 40) (.tmp 41) rfl (N (A w)) (Z (T (Q g 0 Y)) (qTo s.data.toList k).length cap) (qTo s.data.toList k) (by simp[Act.eval,Act.put]) ?_ (Q (N (A wr)) 0 Y) 1 [92] (by simp[Act.eval,Act.put]) ?_ ?_ ?_ ?_
               · exact z.out.aa ((br.alloc ly _).drew.trans (h.out.mono (by simp))) ly
               · exact gA ((h.out.cell (p:=(Q (N (A wr)) 0 Y)) (by simp)).trans (by simp))
               · simp only[cM,eT,nX,dT];omega
               · first|(simp;omega)|omega
               intro ZJ o b c;obtain⟨B,q,rfl,P,O⟩:=b.aq (by simp);have t:=ae b;have n:Hid (Below (N (A w)) w o):=bg ((C.out.alloc r _).drew.trans (h.out.mono (by simp;omega))) c (by first|(simp;omega)|omega) (λx f=>by simp[Value.ownBlock] at f;omega);have ZP:N (A w)<=N (A o):=n.out.size;have G:Hid (x9 o (N (A wr)+1) s[k]):=ZM.out.kept (c.block _ (by simpa using ZQ) (by simp[Value.ownBlock];omega))
               clear b c)
            | (refine gi rfl (.tmp 40) (.tmp 41) rfl (N (A w)) (Z (T (Q g 0 Y)) (qTo s.data.toList k).length cap) (qTo s.data.toList k) (by simp[Act.eval,Act.put]) ?_ (Q (N (A wH)) 0 Y) 1 [92] (by simp[Act.eval,Act.put]) ?_ ?_ ?_ ?_
               · exact z.out.aa ((br.drew.trans h.out).alloc h.out.size _) ly
               · exact gA (by simp)
               · simp only[cM,eT,nX,dT];omega
               · first|(simp;omega)|omega
               intro ZJ o b c;obtain⟨B,q,rfl,P,O⟩:=b.aq (by simp);have t:=ae b;have n:Hid (Below (N (A w)) w o):=bg (((C.out.drew.trans (h.out.mono r)).alloc (p9 r h.out.size) _)) c (by first|(simp;omega)|omega) (λx f=>by simp[Value.ownBlock] at f;omega);have ZP:N (A w)<=N (A o):=n.out.size;have G:Hid (x9 o (N (A wr)) s[k]):=(ZM.out.kept (Below.heap_alloc _ _ _ ZQ)).kept (c.block _ (by simp;omega) (by simp[Value.ownBlock];omega))
               clear b c)
            | (refine gi rfl (.tmp 42) (.tmp 46) rfl (N (A w)) (Z (T (Q B 0 Y)) (qTo s.data.toList k++[92]).length q) (qTo s.data.toList k++[92]) (by simp[Act.eval,Act.put]) ?_ (Q (N (A wr)+1) 0 Y) 2 (dT s[k]) (by simp[Act.eval,Act.put,dT]) ?_ ?_ ?_ ?_
               · exact t.out
               · exact G.out
               · simp only[cM,eT,nX,dT];omega
               · first|(simp;omega)|omega
               intro W H m l;have E:=ae m;have F:Hid (Below (N (A w)) w H):=bg (n.out) l (by first|(simp;omega)|omega) (λx f=>by simp[Value.ownBlock] at f;omega)
               clear m l)
            | (refine gi rfl (.tmp 42) (.tmp 46) rfl (N (A w)) (Z (T (Q B 0 Y)) (qTo s.data.toList k++[92]).length q) (qTo s.data.toList k++[92]) (by simp[Act.eval,Act.put]) ?_ (Q (N (A wr)) 0 Y) 2 (dT s[k]) (by simp[Act.eval,Act.put,dT]) ?_ ?_ ?_ ?_
               · exact t.out
               · exact G.out
               · simp only[cM,eT,nX,dT];omega
               · first|(simp;omega)|omega
               intro W H m l;have E:=ae m;have F:Hid (Below (N (A w)) w H):=bg (n.out) l (by first|(simp;omega)|omega) (λx f=>by simp[Value.ownBlock] at f;omega)
               clear m l)
            |(go_simp;go_at_call 98;refine(Cw _ _).mono ?_;rintro e wH ⟨rfl,hH,ZQ,ZN⟩;have ZM:=ae hH;have h:=ae ZN;clear hH ZN))
          all_goals
            go_wp2;exact⟨⟨k+1,by omega,by go_num,by rw[L.out,HE.out,<-MV];exact E.out,F.out⟩,by simp[intOf];omega⟩
    · have e:k=s.size:=by omega
      subst e;have L:Hid (aJ s.data.toList=qTo s.data.toList s.size++[34]):=by
        show aJ s.data.toList=qTo s.data.toList s.size++[34]
        unfold aJ;simp
      go_wp2_with (at_builtin;refine mG rfl _ _ rfl (N (A w)) _ (qTo s.data.toList s.size) rfl ?h1 (Q (N (A wr)) 0 Y) 1 [34] rfl ?h2 ?h3 ?h4 ?_);case h1=>exact z.out.aa (br.alloc ly _) ly
      case h2=>exact gA (by simp)
      case h3=>simp only[eT,nX];omega
      case h4=>simp;omega
      intro ZI ZR y u;have D:Hid (Below (N (A w)) w ZR):=(C.out.alloc r _).grown u (by simp;omega) (λx f=>by simp[Value.ownBlock] at f;omega);have aq:=Cv ZR _ ZI _ y (by simp);rw[<-L.out] at aq;clear y u;go_wp2;go_ret;exact⟨rfl,D.out⟩
theorem ya (s:ByteArray)(w:M)(f:s.size<=2000):Calls Pg 53 #[.agg #[J I 1,U s,J I 0]] w λe c=>e=ZF (U ⟨(aR 1 s.data.toList 0).toArray⟩)/\Below (N (A w)) w c:=by
 have g:=ep s.data.toList;have b:s.data.toList.length=s.size:=by simp
 rw[b] at g;clear b;go_enter func53,ntmps53;go_wp2_with (first|(go_at_call 52;refine(kE _ _ f).mono ?_;rintro e c ⟨rfl,h⟩)|go_in);all_goals go_ret
 refine⟨gw ?_,(br.alloc ly _).trans (h.mono (by simp))⟩;apply MP;simp[aR,kind,word]
theorem yc (op:Int)(m:Nat)(w:M)(b:op=3∨op=4∨op=5∨op=10∨op=11)(g:m<=2000):Calls Pg 53 #[.agg #[J I op,U ⟨#[]⟩,J I m]] w λe c=>e=ZF (U ⟨(aR op [] m).toArray⟩)/\Below (N (A w)) w c:=by
 have hq:=ny m g;rcases b with rfl|rfl|rfl|rfl|rfl;all_goals
  go_enter func53,ntmps53;go_wp2_with (first|(go_at_call 29;refine(gy m (by omega) _).mono ?_;rintro e c ⟨rfl,f⟩)|go_in);all_goals go_ret
  refine⟨gw ?_,(br.alloc ly _).trans (f.mono (by simp))⟩;apply MP;simp[aR,kind,word]
theorem vC (op:Int)(w:M)(b:op=2∨op=6∨op=7∨op=8∨op=9∨op=12∨op=13∨op=14∨op=15):Calls Pg 53 #[.agg #[J I op,U ⟨#[]⟩,J I 0]] w λe c=>e=ZF (U ⟨(aR op [] 0).toArray⟩)/\Below (N (A w)) w c:=by
 rcases b with rfl|rfl|rfl|rfl|rfl|rfl|rfl|rfl|rfl;all_goals
  go_enter func53,ntmps53;go_wp2;go_ret;exact⟨rfl,br.alloc ly _⟩
theorem jm (op:Int)(s:ByteArray)(n:Int)(w:M)(h:aG op s.size n=ZG):Calls Pg 53 #[.agg #[J I op,U s,J I n]] w λe g=>e=ZF (U ⟨(aR op s.data.toList n).toArray⟩)/\Below (N (A w)) w g:=by
 rcases iJ h with ⟨rfl,c,rfl⟩|⟨b,rfl,m,rfl,f⟩|⟨b,rfl,rfl⟩
 {exact ya s w c};{exact yc op m w b f};{exact vC op w b}
