import Derived.Test.YtkophfgkcijjkaaGreatDoorYG
import Derived.Test.YtkophfgkcijjkaaGreatDoorZR
import Derived.Test.YtkophfgkcijjkaaGreatDoorZD
set_option maxRecDepth 100000
set_option maxHeartbeats 4000000
namespace Go.Proofs.YtkophfgkcijjkaaGreatDoor.Vp
open RowKit Go.Maps Go.Sort Go.Shelf
def SetIs (w:World)(b n:Nat)(L:List (List UInt8)):Prop :=
 ∃ D:DataW Unit,w.ownsMap Tryz.prog 9 unitElem b n D/\∀ x,x∈L ↔ Maps.has D (.string x)=true
theorem jT (w:World):SetIs (w.alloc (.map #[] 0)) w.heap.size 0 [] :=
 ⟨_,World.ownsMap_made w Tryz.prog 9 unitElem,fun x=>by simp[Maps.has]⟩
theorem SetIs.grown {w d:World}{b n:Nat}{L:List (List UInt8)}(h:SetIs w b n L){B:Nat}(hb:Below B w d)(j:b<B):SetIs d b n L:=by obtain⟨D,⟨g,c,i,l,f,k⟩,m⟩:=h;exact⟨D,⟨g,c,(hb.block b j).trans i,l,f,k⟩,m⟩
theorem SetIs.lt {w:World}{b n:Nat}{L:List (List UInt8)}(h:SetIs w b n L):b<w.heap.size:=by obtain⟨D,c,-⟩:=h;exact c.lt
theorem wu {D:DataW Unit}{L:List (List UInt8)}{x:List UInt8}(b:Maps.IsMap D)(h:∀ z,z∈L ↔ Maps.has D (.string z)=true)(d:DataW Unit):∀ z,z∈bH L x ↔ Maps.has (D.put (.string x) d) (.string z)=true:=by
 intro z;rw[ed];by_cases e:z=x
 ·subst e
  rw[Maps.has_put_same b (by simp[WideAt.IsKeyLit])];simp
 ·rw[Maps.has_put_other (by simpa using e),<-h z]
  simp[e]
theorem km (g n:Nat)(L:List (List UInt8))(x:ByteArray)(w:World)(hn:(n:Int)<=1048576)(q:x.size<=maxLen)(h:SetIs w g n L):Calls Tryz.prog 110 #[.map (some g),.string x] w fun e j=>e=.returned (.tuple #[])/\SetIs j g (n+1) (bH L x.toList)/\w.grownBy j (some g):=by obtain⟨D,c,l⟩:=h;have p:=ae c;have m:=ae (wu c.isMap (x:=x.toList) l (.agg []));clear l c;have f:=WideMaps.keyOf_string_mk (P:=Tryz.prog) (k:=9) Tryz.underlying9 q;have i:=ae f;clear f;go_enter Tryz.func110,Tryz.ntmps110;go_wp2_with (at_mapUpdate;refine wpList_mapUpdate_own _ rfl _ _ _ 154 rfl 9 225 (Maps.string_keyed Tryz.underlying9) Tryz.underlying154 unitElem g n D rfl p.out (by unfold maxLen;omega) _ _ _ rfl rfl i.out _ [] unitElem_mk ?_;intro w1 d b;have o:=ae d;have r:=ae b;clear d b);go_end0;refine⟨rfl,⟨_,o.out,?_⟩,r.out⟩;have:=m.out;simp only[ByteArray.toList_eq] at this ⊢;exact this
theorem jh (i n:Nat)(L:List (List UInt8))(w:World)(hn:(n:Int)<=1048576)(hL:L.Pairwise (· < ·))(h:SetIs w i n L):Calls Tryz.prog 111 #[.map (some i)] w fun e g=>∃ v,e=.returned v/\g.ownsRow w.heap.size 9 1 v L.length (L.map encStr)/\Below w.heap.size w g:=by
 obtain⟨D,b,m⟩:=h;have hsz:=b.size_le;have f:L.Nodup:=hL.imp fun h e=>by subst e;exact List.lt_irrefl _ h
 have j:L.Perm (strKeys D):=Collected.perm (left:=fun _=>false) ⟨f,fun x=>by rw[m x];simp⟩ b (Maps.string_keyed Tryz.underlying9) Tryz.underlying9 (fun _=>rfl);have r:=ae j;have o:=ae f;have q:=ae hL;clear j f hL m;refine(callsIn_wide (n:=6)).1 ?_;have hfK:Fence.wide.fn 173:=trivial;have hfS:Fence.wide.fn 172:=trivial;refine callsIn_of_wp Tryz.func111 rfl trivial ?_ rfl;simp only[Tryz.ntmps111,List.size_toArray,List.length_cons,List.length_nil,Nat.reduceAdd,Nat.reduceSub,Array.replicate_succ,Array.replicate_zero,List.push_toArray,List.append_toArray,List.nil_append,List.cons_append]
 gi_wp2_with (first
  | (gi_at_call 173;refine(Tryz.maps_Keys_173 _ _).mono ?_;rintro e g ⟨rfl,rfl⟩)
  | (gi_at_call 172;refine(Tryz.slices_Sorted_keys_172_173 i n D unitElem w b (by unfold maxLen;omega) (by omega)).mono ?_;rintro e g ⟨v,l,rfl,p,d,hnil,hb⟩))
 go_ret;have c:l.Perm L:=p.trans r.out.symm;have k:l.mergeSort (fun x y=>decide (x<=y))=L:=xG (c.nodup_iff.2 o.out) q.out (fun z=>c.mem_iff);rw[k,c.length_eq] at d;exact⟨v,rfl,ownsRow_base_a d (by simp),((Below.refl _ w).alloc ly _).trans (hb.mono (by simp))⟩
theorem SetIs.mono {w:World}{b n c:Nat}{L:List (List UInt8)}(h:SetIs w b n L)(hn:n<=c):SetIs w b c L:=by obtain⟨D,d,f⟩:=h;exact⟨D,d.mono hn,f⟩
end Go.Proofs.YtkophfgkcijjkaaGreatDoor.Vp
namespace Go.Proofs.YtkophfgkcijjkaaGreatDoor.Vp
open RowKit Go.Maps Go.Sort
theorem wv (g n:Nat)(L:List (List UInt8))(x:ByteArray)(w:World)(p:x.size<=maxLen)(h:SetIs w g n L):Calls Tryz.prog 118 #[.map (some g),.string x] w fun e o=>e=.returned (.bool (decide (x.toList∈L)))/\Below w.heap.size w o:=by
 obtain⟨D,c,j⟩:=h;have m:=ae c;obtain⟨r,f⟩:∃ r,r=decide (x.toList∈L):=⟨_,rfl⟩
 rw[<-f];have i:Maps.has D (.string x.data.toList)=r:=by
  rw[f];have:=j x.toList;rw[ByteArray.toList_eq] at this ⊢;cases hc:Maps.has D (.string x.data.toList) with
  | true=>rw[hc] at this;simp at this;simp[this]
  | false=>rw[hc] at this;simp at this;simp[this]
 have l:=ae i;clear j c f i;have b:=WideMaps.keyOf_string_mk (P:=Tryz.prog) (k:=9) Tryz.underlying9 p;have d:=ae b;clear b;have hz:(zeroValue 225).run Tryz.prog w=.ok (.agg #[]) w:=by rfl
 have q:=ae hz;clear hz;go_enter Tryz.func118,Tryz.ntmps118;go_wp2_with (refine wpList_lookup_own_unit _ rfl _ _ 154 rfl 9 225 (Maps.string_keyed Tryz.underlying9) Tryz.underlying154 q.out g n D rfl m.out _ _ rfl d.out ?_;rw[l.out]);go_ret;exact⟨rfl,br.alloc ly _⟩
def mN (L:List (List UInt8))(t:ByteArray)(l:Link):Bool:=l.name.toList == t.toList || (l.ask && decide (l.name.toList∈L))
def eK (L:List (List UInt8))(t:ByteArray)(g:Nat->Link):Nat->Bool
 | 0=>false
 | k+1=>eK L t g k || mN L t (g k)
theorem te {L:List (List UInt8)}{t:ByteArray}{g:Nat->Link}{k n:Nat}(h:k<n)(c:mN L t (g k)=true):eK L t g n=true:=by
 induction n with
 | zero=>omega
 | succ m b =>
  by_cases e:k=m
  ·subst e;simp[eK,c]
  ·simp[eK,b (by omega)]
theorem ww {L:List (List UInt8)}{D:Nat->Bool}{t:ByteArray}{x:ar}{n:Nat}(h:∀ j,j<n->(x.links j).ask=true->((x.links j).name.toList∈L ↔ D (x.links j).at_.toNat=true)):eK L t x.links n=bX D t x n:=by
 induction n with
 | zero=>rfl
 | succ n b =>
  rw[eK,bX,b fun j hj=>h j (by omega)];congr 1;unfold mN ee;cases ha:(x.links n).ask with
  | false=>rfl
  | true =>
   have:=h n (by omega) ha;cases hd:D (x.links n).at_.toNat with
   | true=>rw[hd] at this;simp[this.2 rfl]
   | false=>rw[hd] at this;simp at this;simp[this]
theorem pB (l:Link)(f d i n:Nat)(L:List (List UInt8))(t:ByteArray)(w:World)(j:l.name.size<=maxLen)(h:SetIs w i n L)(hn:w.cell? ⟨f,0,none⟩=some (.string t))(q:f<w.heap.size)(m:w.cell? ⟨d,0,none⟩=some (.map (some i)))(s:d<w.heap.size):Calls Tryz.prog 117 #[.agg #[.string l.name,.bool l.ask,.bool l.has,.int .i64 l.at_],.pointer (some ⟨f,0,none⟩),.pointer (some ⟨d,0,none⟩)] w fun e y=>e=.returned (.bool (mN L t l))/\Below w.heap.size w y:=by
 have b:=ae ((q9 w).alloc ly (.cells #[.string l.name,.bool l.ask,.bool l.has,.int .i64 l.at_] 73));have o:=ae (h.grown b.out h.lt);have n0:=(b.out.cell (p:=⟨f,0,none⟩) q).trans hn;have m0:=(b.out.cell (p:=⟨d,0,none⟩) s).trans m;obtain⟨r,g⟩:∃ r,r=mN L t l:=⟨_,rfl⟩
 rw[<-g];have c:=ae (show r=(l.name.toList == t.toList || (l.ask && decide (l.name.toList∈L))) from g);clear h g hn m;obtain⟨nm,ask,hs,at_⟩:=l;dsimp only at j b o n0 m0 c ⊢;go_enter Tryz.func117,Tryz.ntmps117;cases he:(nm.toList == t.toList) with
 | true =>
  obtain rfl:r=true:=by have:=c.out;rw[he] at this;simpa using this
  go_wp2;go_ret;exact⟨rfl,b.out⟩
 | false =>
  cases ask with
  | false =>
   obtain rfl:r=false:=by have:=c.out;rw[he] at this;simpa using this
   go_wp2;go_ret;exact⟨rfl,b.out⟩
  | true =>have k:=ae (show r=decide (nm.toList∈L) by have:=c.out;rw[he] at this;simpa using this);clear c;go_wp2_with (go_at_call 118;refine(wv i n L nm _ j o.out).mono ?_;rintro e w1 ⟨rfl,u⟩;rw[<-k.out];have x:=ae (b.out.trans (u.mono b.out.size));clear u);go_ret;exact⟨rfl,x.out⟩
theorem qS (b off m c:Nat)(g:Nat->Link)(l f A n:Nat)(L:List (List UInt8))(t:ByteArray)(w:World)(hmm:(m:Int)<=1048576)(u:RowLink w b off m g)(hz:∀ j,j<m->(g j).name.size<=maxLen)(h:SetIs w A n L)(hn:w.cell? ⟨l,0,none⟩=some (.string t))(o:l<w.heap.size)(D:w.cell? ⟨f,0,none⟩=some (.map (some A)))(q:f<w.heap.size):Calls Tryz.prog 177 #[.slice (some ⟨b,off,none⟩) m c,.func (.func 117) #[] #[.pointer (some ⟨l,0,none⟩),.pointer (some ⟨f,0,none⟩)]] w fun e J=>∃ r:Int,e=.returned (.int .i64 r)/\decide (0<=r)=eK L t g m/\Below w.heap.size w J:=by
 have K:=ae u;have H:=ae hz;have z:=ae h;have C:=ae hn;have E:=ae D;clear u hz h hn D;go_enter Tryz.func177,Tryz.ntmps177;go_wp2;go_loopw [8] (fun i wr=>∃ k:Nat,k<=m/\i=.int .i64 k/\Hid (eK L t g k=false)/\Hid (Below w.heap.size w wr)) (fun i _=>m - (intOf i).toNat);case atStart=>exact⟨0,by omega,rfl,rfl,Below.refl _ _⟩
 case round =>
  obtain⟨k,hk,rfl,G,d⟩:=hrel;by_cases s:k<m
  ·obtain⟨c0,c1,c2,c3⟩:=(K.out.below d.out ly).2 k s
   cases hb:mN L t (g k) with
   | true =>have x:=ae hb;clear hb;go_wp2_with (go_at_call 117;refine(pB (g k) l f A n L t _ (H.out k s) (z.out.grown d.out z.out.lt) ((d.out.cell (p:=⟨l,0,none⟩) o).trans C.out) (lj o d.out.size) ((d.out.cell (p:=⟨f,0,none⟩) q).trans E.out) (lj q d.out.size)).mono ?_;rintro e I ⟨rfl,y⟩;rw[x.out];have B:=ae (d.out.trans (y.mono d.out.size));clear y);go_ret;exact⟨k,rfl,by rw[te s x.out];simp,B.out⟩
   | false =>have x:=ae hb;clear hb;go_wp2_with (go_at_call 117;refine(pB (g k) l f A n L t _ (H.out k s) (z.out.grown d.out z.out.lt) ((d.out.cell (p:=⟨l,0,none⟩) o).trans C.out) (lj o d.out.size) ((d.out.cell (p:=⟨f,0,none⟩) q).trans E.out) (lj q d.out.size)).mono ?_;rintro e I ⟨rfl,y⟩;rw[x.out];have B:=ae (d.out.trans (y.mono d.out.size));clear y);exact⟨⟨k+1,by omega,by go_num,by show eK _ _ _ (k+1)=false;simp[eK,G.out,x.out],B.out⟩,by simp[intOf];omega⟩
  ·have e:k=m:=by omega
   subst e;go_wp2;go_ret;exact⟨-1,rfl,by rw[G.out];rfl,d.out⟩
theorem qT (a0:Option Addr)(c:Nat)(b:Value)(d g:Nat)(h:b=.func (.func 117) #[] #[.pointer (some ⟨d,0,none⟩),.pointer (some ⟨g,0,none⟩)])(w:World):Calls Tryz.prog 177 #[.slice a0 0 c,b] w fun e f=>∃ r:Int,e=.returned (.int .i64 r)/\decide (0<=r)=false/\f=w:=by
 subst h;go_enter Tryz.func177,Tryz.ntmps177;go_wp2;go_loop [8] (fun i=>i=.int .i64 0) (fun _=>0);case atStart=>rfl
 case round =>
  subst hrel;go_wp2;go_ret;first
   | exact⟨-1,rfl,rfl,rfl⟩
   | exact⟨-1,rfl,by decide,rfl⟩
   | exact⟨⟨-1,rfl,by decide⟩,rfl⟩
   | exact⟨-1,by decide,rfl⟩
theorem qU (a0:Option Addr)(m c:Nat)(g:Nat->Link)(i f k n:Nat)(L:List (List UInt8))(t:ByteArray)(w:World)(l:(m:Int)<=1048576)(d:SlLink w a0 m g)(hz:∀ j,j<m->(g j).name.size<=maxLen)(h:SetIs w k n L)(hn:w.cell? ⟨i,0,none⟩=some (.string t))(p:i<w.heap.size)(u:w.cell? ⟨f,0,none⟩=some (.map (some k)))(q:f<w.heap.size):Calls Tryz.prog 177 #[.slice a0 m c,.func (.func 117) #[] #[.pointer (some ⟨i,0,none⟩),.pointer (some ⟨f,0,none⟩)]] w fun e o=>∃ r:Int,e=.returned (.int .i64 r)/\decide (0<=r)=eK L t g m/\Below w.heap.size w o:=by
 rcases d with rfl | ⟨b,off,rfl,d⟩
 ·exact(qT a0 c _ i f rfl w).mono fun e o ⟨r,y,x,s⟩=>⟨r,y,x,by rw[s];exact Below.refl _ _⟩
 ·exact qS b off m c g i f k n L t w l d hz h hn p u q
theorem qV (a0:Option Addr)(m c:Nat)(g:Nat->Link)(f d i n:Nat)(L:List (List UInt8))(t:ByteArray)(w:World)(p:(m:Int)<=1048576)(b:SlLink w a0 m g)(hz:∀ j,j<m->(g j).name.size<=maxLen)(h:SetIs w i n L)(hn:w.cell? ⟨f,0,none⟩=some (.string t))(u:f<w.heap.size)(q:w.cell? ⟨d,0,none⟩=some (.map (some i)))(x:d<w.heap.size):Calls Tryz.prog 116 #[.slice a0 m c,.func (.func 117) #[] #[.pointer (some ⟨f,0,none⟩),.pointer (some ⟨d,0,none⟩)]] w fun e z=>e=.returned (.bool (eK L t g m))/\Below w.heap.size w z:=by
 have l:=ae (qU a0 m c g f d i n L t w p b hz h hn u q x);obtain⟨A,k⟩:∃ A,A=eK L t g m:=⟨_,rfl⟩
 rw[<-k];rw[<-k] at l;clear k b hz h hn q;go_enter Tryz.func116,Tryz.ntmps116;go_wp2_with fail;refine l.out.mono ?_;rintro e w1 ⟨r,rfl,o,s⟩;have y:=ae o;have B:=ae s;clear o s;go_wp2;go_ret;exact⟨bW y.out,B.out⟩
theorem mc (a:Option Addr)(n cap:Nat)(f:Nat->ar)(t:ByteArray)(w:World)(hn:(n:Int)<=1048576)(hv:SlDeed w a n f)(Y:(n:Int)<=cap)(I:∀ i,i<n->cK (f i))(P:∀ i,i<n->dD (f i))(z:Tab w):Calls Tryz.prog 41 #[.agg #[.slice a n cap],.string t] w fun e w'=>∃ v,e=.returned v/\w'.ownsRow w.heap.size 9 1 v (gi f n t).length ((gi f n t).map encStr)/\Below w.heap.size w w':=by
 have R:=ae hv;have HM:=ae I;have HZ:=ae P;have HT:=ae z;clear hv I P z;have x:=ae (((q9 w).alloc ly (.cells #[.slice a n cap] 59)).alloc (by simp) (.cells #[.string t] 9));have S:((w.alloc (.cells #[.slice a n cap] 59)).alloc (.cells #[.string t] 9)).cell? ⟨w.heap.size,0,none⟩=some (.slice a n cap):=by simp
 have Q:((w.alloc (.cells #[.slice a n cap] 59)).alloc (.cells #[.string t] 9)).cell? ⟨w.heap.size+1,0,none⟩=some (.string t):=by simp
 have hz:w.heap.size+1<((w.alloc (.cells #[.slice a n cap] 59)).alloc (.cells #[.string t] 9)).heap.size:=by simp
 obtain⟨T,z⟩:∃ T,T=gi f n t:=⟨_,rfl⟩
 rw[<-z];have L:=ae (show T=if bK f n=true then aQ f t n else [] from z);clear z;go_enter Tryz.func41,Tryz.ntmps41;go_wp2_with fail;generalize (w.alloc (.cells #[.slice a n cap] 59)).alloc (.cells #[.string t] 9)=W at x S Q hz ⊢;refine(fi a n cap f _ hn (R.out.below x.out ly) Y HM.out (HT.out.below x.out HT.out.1)).mono ?_;rintro e c ⟨rfl,g⟩;have H:=ae (x.out.trans (g.mono x.out.size));have k1:=(g.cell (p:=⟨w.heap.size,0,none⟩) (Nat.lt_of_succ_lt hz)).trans S;have j1:=(g.cell (p:=⟨w.heap.size+1,0,none⟩) hz).trans Q;have E:w.heap.size+1<c.heap.size:=lj hz g.size;clear g x S Q hz;have U:=ae (fun h:bK f n=true=>(⟨dT h,eX h,fun p hp j hj ha=>vG (t:=t) h hp hj ha⟩:(1<=n/\n<=400/\aG (aZ f) n=-1)/\(∀ p,p<n->(f p).linksN<=200)/\∀ p,p<n->∀ j,j<(f p).linksN->((f p).links j).ask=true->(((f p).links j).name.toList∈aQ f t p ↔ bo f t p ((f p).links j).at_.toNat=true)));generalize bK f n=r at L U ⊢;cases r with
 | false =>obtain rfl:T=[]:=L.out;go_wp2;go_ret;exact⟨_,rfl,⟨by simp,.inl ⟨rfl,rfl⟩⟩,H.out⟩
 | true =>
  obtain rfl:T=aQ f t n:=L.out;obtain⟨⟨hn1,hn4,-⟩,hl,J⟩:=U.out rfl;have bt:=ae hl;have fd:=ae J;clear hl J L U HM;obtain⟨b,off,rfl,G⟩:=R.out.resolve_left (by omega);have HR:=ae G;clear R G;have A1:=ae (((q9 c).alloc ly (.map #[] 0)).alloc (by simp) (.cells #[.map (some c.heap.size)] 154));have M0:=ae ((jT c).grown ((Below.refl _ (c.alloc (.map #[] 0))).alloc ly (.cells #[.map (some c.heap.size)] 154)) (by simp));have k2:=(A1.out.cell (p:=⟨w.heap.size,0,none⟩) (Nat.lt_of_succ_lt E)).trans k1;have Z:((c.alloc (.map #[] 0)).alloc (.cells #[.map (some c.heap.size)] 154)).cell? ⟨c.heap.size+1,0,none⟩=some (.map (some c.heap.size)):=by simp
  have y:c.heap.size+1<((c.alloc (.map #[] 0)).alloc (.cells #[.map (some c.heap.size)] 154)).heap.size:=by simp
  have ex:=@run_makeMap Tryz.prog;go_wp2;clear ex k2;generalize (c.alloc (.map #[] 0)).alloc (.cells #[.map (some c.heap.size)] 154)=W1 at M0 A1 Z y ⊢;have X2:=ae Z;clear Z;obtain⟨d,A⟩:∃ d,d=c.heap.size:=⟨_,rfl⟩
  rw[<-A] at M0 X2 y ⊢;have aq:=ae A;clear A;go_loopw [15] (fun i wr=>∃ k:Nat,k<=n/\i=.int .i64 k/\Hid (SetIs wr d k (aQ f t k))/\Hid (wr.cell? ⟨d+1,0,none⟩=some (.map (some d))/\d+1<wr.heap.size)/\Hid (Below c.heap.size c wr)) (fun i _=>n - (intOf i).toNat);case atStart=>exact⟨0,by omega,rfl,M0.out,⟨X2.out,y⟩,A1.out⟩
  case round =>
   obtain⟨k,hk,rfl,HK,u,M⟩:=hrel;by_cases q:k<n
   ·obtain⟨p0,p1,p2,p3,⟨a0,m,p4,q4⟩,⟨a1,l,p5,q5⟩⟩:=(HR.out.below (H.out.trans (M.out.mono H.out.size)) ly).2 k q
    have hlk:=bt.out k q;have HS:=ae (show aQ f t (k+1)=if bo f t (k+1) k=true then bH (aQ f t k) (f k).name.toList else aQ f t k from rfl);have HI:=ae ((ww (t:=t) (D:=bo f t k) (fd.out k q)).trans (iX f t k).symm);have o:=ae ((q9 wr).alloc ly (.cells #[.string (f k).name,.int .i64 (f k).kind,.int .i64 (f k).code,.string (f k).text,.slice a0 (f k).actN m,.slice a1 (f k).linksN l] 67));have K:=ae (M.out.alloc M.out.size (.cells #[.string (f k).name,.int .i64 (f k).kind,.int .i64 (f k).code,.string (f k).text,.slice a0 (f k).actN m,.slice a1 (f k).linksN l] 67));have N:=ae (HK.out.grown o.out HK.out.lt);have Q5:=ae (q5.below o.out ly);have X0:=ae (show(wr.alloc (.cells #[.string (f k).name,.int .i64 (f k).kind,.int .i64 (f k).code,.string (f k).text,.slice a0 (f k).actN m,.slice a1 (f k).linksN l] 67)).cell? ⟨wr.heap.size,0,none⟩=some (.string (f k).name) by simp);have X1:=ae (show(wr.alloc (.cells #[.string (f k).name,.int .i64 (f k).kind,.int .i64 (f k).code,.string (f k).text,.slice a0 (f k).actN m,.slice a1 (f k).linksN l] 67)).heap.size=wr.heap.size+1 by simp);clear q4 q5;go_wp2_with fail;clear p0 p1 p2 p3 p4 p5;generalize wr.alloc (.cells #[.string (f k).name,.int .i64 (f k).kind,.int .i64 (f k).code,.string (f k).text,.slice a0 (f k).actN m,.slice a1 (f k).linksN l] 67)=W2 at o K N Q5 X0 X1 ⊢;have la:w.heap.size+1<W2.heap.size:=lj E K.out.size;have B:d+1<W2.heap.size:=lj u.out.2 o.out.size;refine(qV a1 (f k).linksN l (f k).links (w.heap.size+1) (d+1) d k (aQ f t k) t _ (by omega) Q5.out (fun j hj=>(HZ.out k q).2.2.2.2 j hj) N.out ((K.out.cell (p:=⟨w.heap.size+1,0,none⟩) E).trans j1) la ((o.out.cell (p:=⟨d+1,0,none⟩) u.out.2).trans u.out.1) B).mono ?_;rintro e w2 ⟨rfl,g⟩;rw[HI.out];have C:=ae (K.out.trans (g.mono K.out.size));have S2:=ae (N.out.grown g N.out.lt);have y0:=(g.cell (p:=⟨wr.heap.size,0,none⟩) (by show wr.heap.size<W2.heap.size;rw[X1.out];omega)).trans X0.out;have y1:=(g.cell (p:=⟨d+1,0,none⟩) B).trans ((o.out.cell (p:=⟨d+1,0,none⟩) u.out.2).trans u.out.1);have y:d+1<w2.heap.size:=lj B g.size;clear g;cases hc:bo f t (k+1) k with
    | true =>have X:=ae hc;have V:=ae y1;clear hc;go_wp2_with (go_at_call 110;refine(km d k (aQ f t k) (f k).name _ (by omega) (HZ.out k q).1 S2.out).mono ?_;rintro e w3 ⟨rfl,O,s⟩;have S3:=ae O;have B3:=ae (bg C.out s C.out.size (fun j e=>by cases e;exact Nat.le_of_eq aq.out.symm));have Y3:=ae (s.cell V.out (by simp));have z3:d+1<w3.heap.size:=lj y s.size;clear O s);exact⟨⟨k+1,by omega,by go_num,by rw[HS.out,if_pos X.out];exact S3.out,⟨Y3.out,z3⟩,B3.out⟩,by simp[intOf];omega⟩
    | false =>have X:=ae hc;clear hc;have V:=ae y1;go_wp2;exact⟨⟨k+1,by omega,by go_num,by rw[HS.out,if_neg (by rw[X.out];simp)];exact S2.out.mono (by omega),⟨V.out,y⟩,C.out⟩,by simp[intOf];omega⟩
   ·obtain rfl:k=n:=by omega
    have o:=ae (H.out.trans (M.out.mono H.out.size));have y1:=u.out.1;go_wp2_with (go_at_call 111;refine(jh d k (aQ f t k) _ (by omega) (oY f t k) HK.out).mono ?_;rintro e w2 ⟨v,rfl,ho,g⟩;have O2:=ae (aB ho o.out.size);have C:=ae (o.out.trans (g.mono o.out.size));clear ho g);go_ret;exact⟨v,rfl,O2.out,C.out⟩
theorem oC (a:Option Addr)(n cap:Nat)(f:Nat->ar)(w:World)(hn:(n:Int)<=1048576)(hv:SlDeed w a n f)(V:(n:Int)<=cap)(C:∀ i,i<n->cK (f i))(P:∀ i,i<n->dD (f i))(y:Tab w):Calls Tryz.prog 35 #[.agg #[.slice a n cap]] w fun e Z=>∃ v,e=.returned v/\Z.ownsRow w.heap.size 9 1 v (gP f n).length ((gP f n).map encStr)/\Below w.heap.size w Z:=by
 have Q:=ae hv;have HM:=ae C;have HZ:=ae P;have HT:=ae y;clear hv C P y;have x:=ae ((q9 w).alloc ly (.cells #[.slice a n cap] 59));have R:(w.alloc (.cells #[.slice a n cap] 59)).cell? ⟨w.heap.size,0,none⟩=some (.slice a n cap):=by simp
 have hz:w.heap.size<(w.alloc (.cells #[.slice a n cap] 59)).heap.size:=by simp
 obtain⟨T,y⟩:∃ T,T=gP f n:=⟨_,rfl⟩
 rw[<-y];have G:=ae (show T=if bK f n=true then aV f n else [] from y);clear y;go_enter Tryz.func35,Tryz.ntmps35;go_wp2_with fail;generalize w.alloc (.cells #[.slice a n cap] 59)=W at x R hz ⊢;refine(fi a n cap f _ hn (Q.out.below x.out ly) V HM.out (HT.out.below x.out HT.out.1)).mono ?_;rintro e c ⟨rfl,l⟩;have m:=ae (x.out.trans (l.mono x.out.size));have k1:=(l.cell (p:=⟨w.heap.size,0,none⟩) hz).trans R;have aq:w.heap.size<c.heap.size:=lj hz l.size;clear l x R hz;have S:=ae (fun h:bK f n=true=>(⟨dT h,eX h⟩:(1<=n/\n<=400/\aG (aZ f) n=-1)/\∀ p,p<n->(f p).linksN<=200));generalize bK f n=r at G S ⊢;cases r with
 | false =>obtain rfl:T=[]:=G.out;go_wp2;go_ret;exact⟨_,rfl,⟨by simp,.inl ⟨rfl,rfl⟩⟩,m.out⟩
 | true =>
  obtain rfl:T=aV f n:=G.out;obtain⟨⟨hn1,hn4,-⟩,hl⟩:=S.out rfl;have bt:=ae hl;clear hl;clear G S HM;obtain⟨b,off,rfl,B⟩:=Q.out.resolve_left (by omega);have s:=ae B;clear Q B;have X:=ae (jT c);have Y:=ae ((q9 c).alloc ly (.map #[] 0));have k2:=(Y.out.cell (p:=⟨w.heap.size,0,none⟩) aq).trans k1;have ex:=@run_makeMap Tryz.prog;go_wp2;clear ex k2;generalize c.alloc (.map #[] 0)=W1 at X Y ⊢;obtain⟨o,z⟩:∃ o,o=c.heap.size:=⟨_,rfl⟩
  rw[<-z] at X ⊢;have M:=ae z;clear z;go_loopw [15] (fun i wr=>∃ k:Nat,k<=n/\i=.int .i64 k/\Hid (SetIs wr o (k*201) (aV f k))/\Hid (Below c.heap.size c wr)) (fun i _=>n - (intOf i).toNat);case atStart=>exact⟨0,by omega,rfl,X.out,Y.out⟩
  case round =>
   obtain⟨k,hk,rfl,I,H⟩:=hrel;by_cases t:k<n
   ·obtain⟨o0,o1,o2,o3,⟨a0,g,o4,q4⟩,⟨a1,d,o5,q5⟩⟩:=s.out.2 k t
    have q:=m.out.trans (H.out.mono m.out.size);have p0:=(q.cell (p:=⟨b,off+k*6,none⟩) s.out.1).trans o0;have p1:=(q.cell (p:=⟨b,off+k*6+1,none⟩) s.out.1).trans o1;have p2:=(q.cell (p:=⟨b,off+k*6+2,none⟩) s.out.1).trans o2;have p3:=(q.cell (p:=⟨b,off+k*6+3,none⟩) s.out.1).trans o3;have p4:=(q.cell (p:=⟨b,off+k*6+4,none⟩) s.out.1).trans o4;have p5:=(q.cell (p:=⟨b,off+k*6+5,none⟩) s.out.1).trans o5;have Q5:=ae q5;clear q4 q5 o0 o1 o2 o3 o4 o5 q;have hlk:=bt.out k t;have HS:=ae (show aV f (k+1)=fA (bH (aV f k) (f k).name.toList) (f k).links (f k).linksN from rfl);have A:=ae ((q9 wr).alloc ly (.cells #[.string (f k).name,.int .i64 (f k).kind,.int .i64 (f k).code,.string (f k).text,.slice a0 (f k).actN g,.slice a1 (f k).linksN d] 67));have C2:=ae (H.out.alloc H.out.size (.cells #[.string (f k).name,.int .i64 (f k).kind,.int .i64 (f k).code,.string (f k).text,.slice a0 (f k).actN g,.slice a1 (f k).linksN d] 67));have K2:=ae (I.out.grown A.out I.out.lt);have X5:=ae (show(wr.alloc (.cells #[.string (f k).name,.int .i64 (f k).kind,.int .i64 (f k).code,.string (f k).text,.slice a0 (f k).actN g,.slice a1 (f k).linksN d] 67)).cell? ⟨wr.heap.size,5,none⟩=some (.slice a1 (f k).linksN d) by simp);have mz:=I.out.lt;go_wp2_with (go_at_call 110;refine(km o (k*201) (aV f k) (f k).name _ (by omega) (HZ.out k t).1 K2.out).mono ?_;rintro e w2 ⟨rfl,O,D⟩;have S2:=ae O;have U:=ae (bg C2.out D C2.out.size (fun j e=>by cases e;exact Nat.le_of_eq M.out.symm));have x6:=D.cell X5.out (by simp;omega);clear O D);clear x6;go_loopw [26] (fun i w3=>∃ j:Nat,j<=(f k).linksN/\i=.int .i64 j/\Hid (SetIs w3 o (k*201+1+j) (fA (bH (aV f k) (f k).name.toList) (f k).links j))/\Hid (Below c.heap.size c w3)) (fun i _=>(f k).linksN - (intOf i).toNat);case atStart=>exact⟨0,by omega,rfl,S2.out,U.out⟩
    case round =>
     obtain⟨j,hj,rfl,E,u⟩:=hrel;by_cases L:j<(f k).linksN
     ·obtain⟨b4,off4,rfl,N⟩:=(Q5.out.below (m.out.trans (u.out.mono m.out.size)) ly).resolve_left (by omega)
      obtain⟨r0,r1,r2,r3⟩:=N.2 j L;clear N;have C3:=ae (u.out.alloc u.out.size (.cells #[.string ((f k).links j).name,.bool ((f k).links j).ask,.bool ((f k).links j).has,.int .i64 ((f k).links j).at_] 73));have K3:=ae (E.out.grown ((q9 wr).alloc ly (.cells #[.string ((f k).links j).name,.bool ((f k).links j).ask,.bool ((f k).links j).has,.int .i64 ((f k).links j).at_] 73)) E.out.lt);go_wp2_with (go_at_call 110;refine(km o (k*201+1+j) _ ((f k).links j).name _ (by omega) ((HZ.out k t).2.2.2.2 j L) K3.out).mono ?_;rintro e w4 ⟨rfl,K,J⟩;have S4:=ae K;have B4:=ae (bg C3.out J C3.out.size (fun j e=>by cases e;exact Nat.le_of_eq M.out.symm));clear K J);exact⟨⟨j+1,by omega,by go_num,S4.out,B4.out⟩,by simp[intOf];omega⟩
     ·obtain rfl:j=(f k).linksN:=by omega
      go_wp2;exact⟨⟨k+1,by omega,by go_num,by rw[HS.out];exact E.out.mono (by omega),u.out⟩,by simp[intOf];omega⟩
   ·obtain rfl:k=n:=by omega
    have A:=ae (m.out.trans (H.out.mono m.out.size));go_wp2_with (go_at_call 111;refine(jh o (k*201) (aV f k) _ (by omega) (ua f k) I.out).mono ?_;rintro e w2 ⟨v,rfl,ho,l⟩;have O2:=ae (aB ho A.out.size);have U:=ae (A.out.trans (l.mono A.out.size));clear ho l);go_ret;exact⟨v,rfl,O2.out,U.out⟩
theorem me (a:Option Addr)(n cap:Nat)(f:Nat->ar)(w:World)(hn:(n:Int)<=1048576)(S:SlDeed w a n f)(L:(n:Int)<=cap)(x:∀ i,i<n->cK (f i))(D:∀ i,i<n->dD (f i))(l:Tab w):Calls Tryz.prog 36 #[.agg #[.slice a n cap]] w fun e R=>∃ v,e=.returned v/\R.ownsRow w.heap.size 9 1 v (gO f n).length ((gO f n).map encStr)/\Below w.heap.size w R:=by
 have G:=ae S;have X:=ae x;have HZ:=ae D;have U:=ae l;clear S x D l;have g:=ae ((q9 w).alloc ly (.cells #[.slice a n cap] 59));have H:(w.alloc (.cells #[.slice a n cap] 59)).cell? ⟨w.heap.size,0,none⟩=some (.slice a n cap):=by simp
 have hz:w.heap.size<(w.alloc (.cells #[.slice a n cap] 59)).heap.size:=by simp
 obtain⟨T,l⟩:∃ T,T=gO f n:=⟨_,rfl⟩
 rw[<-l];have y:=ae (show T=if bK f n=true then cf f n else [] from l);clear l;go_enter Tryz.func36,Tryz.ntmps36;go_wp2_with fail;generalize w.alloc (.cells #[.slice a n cap] 59)=W at g H hz ⊢;refine(fi a n cap f _ hn (G.out.below g.out ly) L X.out (U.out.below g.out U.out.1)).mono ?_;rintro e c ⟨rfl,d⟩;have t:=ae (g.out.trans (d.mono g.out.size));have k1:=(d.cell (p:=⟨w.heap.size,0,none⟩) hz).trans H;have Z:w.heap.size<c.heap.size:=lj hz d.size;clear d g H hz;have I:=ae (fun h:bK f n=true=>dT h);generalize bK f n=r at y I ⊢;cases r with
 | false =>obtain rfl:T=[]:=y.out;go_wp2;go_ret;exact⟨_,rfl,⟨by simp,.inl ⟨rfl,rfl⟩⟩,t.out⟩
 | true =>
  obtain rfl:T=cf f n:=y.out;obtain⟨hn1,hn4,-⟩:=I.out rfl;clear y I X;obtain⟨b,off,rfl,s⟩:=G.out.resolve_left (by omega);have HR:=ae s;clear G s;have M:=ae (jT c);have Q:=ae ((q9 c).alloc ly (.map #[] 0));have k2:=(Q.out.cell (p:=⟨w.heap.size,0,none⟩) Z).trans k1;have aq:=@run_makeMap Tryz.prog;go_wp2;clear aq k2;generalize c.alloc (.map #[] 0)=W1 at M Q ⊢;obtain⟨u,o⟩:∃ u,u=c.heap.size:=⟨_,rfl⟩
  rw[<-o] at M ⊢;have Y:=ae o;clear o;go_loopw [13] (fun i wr=>∃ k:Nat,k<=n/\i=.int .i64 k/\Hid (SetIs wr u k (cf f k))/\Hid (Below c.heap.size c wr)) (fun i _=>n - (intOf i).toNat);case atStart=>exact⟨0,by omega,rfl,M.out,Q.out⟩
  case round =>
   obtain⟨k,hk,rfl,P,z⟩:=hrel;by_cases B:k<n
   ·obtain⟨p0,p1,p2,p3,⟨a0,m,p4,q4⟩,⟨a1,q,p5,q5⟩⟩:=(HR.out.below (t.out.trans (z.out.mono t.out.size)) ly).2 k B
    clear q4 q5;have V:=ae (show cf f (k+1)=if (f k).kind=1 then bH (cf f k) (f k).name.toList else cf f k from rfl);have A:=ae (z.out.alloc z.out.size (.cells #[.string (f k).name,.int .i64 (f k).kind,.int .i64 (f k).code,.string (f k).text,.slice a0 (f k).actN m,.slice a1 (f k).linksN q] 67));have N:=ae (P.out.grown ((q9 wr).alloc ly (.cells #[.string (f k).name,.int .i64 (f k).kind,.int .i64 (f k).code,.string (f k).text,.slice a0 (f k).actN m,.slice a1 (f k).linksN q] 67)) P.out.lt);by_cases O:(f k).kind=1
    ·rw[O] at A N
     go_wp2_with (go_at_call 110;refine(km u k (cf f k) (f k).name _ (by omega) (HZ.out k B).1 N.out).mono ?_;rintro e w2 ⟨rfl,C,E⟩;have S2:=ae C;have K:=ae (bg A.out E A.out.size (fun j e=>by cases e;exact Nat.le_of_eq Y.out.symm));clear C E);exact⟨⟨k+1,by omega,by go_num,by rw[V.out,if_pos O];exact S2.out,K.out⟩,by simp[intOf];omega⟩
    ·go_wp2
     exact⟨⟨k+1,by omega,by go_num,by rw[V.out,if_neg O];exact N.out.mono (by omega),A.out⟩,by simp[intOf];omega⟩
   ·obtain rfl:k=n:=by omega
    have J:=ae (t.out.trans (z.out.mono t.out.size));go_wp2_with (go_at_call 111;refine(jh u k (cf f k) _ (by omega) (vB f k) P.out).mono ?_;rintro e w2 ⟨v,rfl,ho,d⟩;have O2:=ae (aB ho J.out.size);have K:=ae (J.out.trans (d.mono J.out.size));clear ho d);go_ret;exact⟨v,rfl,O2.out,K.out⟩
end Go.Proofs.YtkophfgkcijjkaaGreatDoor.Vp
