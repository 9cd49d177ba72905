import Derived.Test.YtmfjiolopcbcmaaGreatDoorK21
import Derived.Test.YtmfjiolopcbcmaaGreatDoorK16
import Derived.Test.YtmfjiolopcbcmaaGreatDoorLOw
namespace Go.Proofs.YtmfjiolopcbcmaaGreatDoor
set_option maxHeartbeats 3200000
set_option linter.unusedVariables false
set_option linter.unusedSimpArgs false
set_option maxRecDepth 100000
open Go.ChangeShapes Go.WideShapes Go.ChangeAt Go.RowKit Go.Proofs.Tryz
variable {id x:Int} {k:Nat} {l:List Int} {w:World}
theorem ga.rdu {B:Nat} {v:Value} (h:ga B w v l):iA w v l:=by
 rcases h.2 with ⟨rfl,h0⟩ | ⟨g,cap,cur,rfl,hb,hg,hr⟩;{exact ⟨none,0,by rw [h0],.inl (List.length_eq_zero_iff.1 h0)⟩};{refine ⟨_,cap,rfl,.inr ⟨g,0,rfl,fun i hi=>?_⟩⟩;have:=World.ownsRow.cellAt h i (by omega);rw [Nat.zero_add,this];simp [List.getD_eq_getElem?_getD,hi]}
theorem iA.at {p:Option Addr} {n c:Nat} (h:iA w (.slice p n c) l) (hx:l[k]?=some x):∃ b o,p=some ⟨b,o,none⟩/\w.cell? ⟨b,o+k,none⟩=some (.int .u64 x):=by
 obtain ⟨p',c',e,hd⟩:=h;have hk:=(aM.1 hx).1;rcases hd with h0 | ⟨b,o,h1,h2⟩;{rw [h0] at hk;simp at hk};{simp only [Value.slice.injEq] at e;have:=h2 k hk;rw [List.getD_eq_getElem?_getD,hx,Option.getD_some] at this;exact ⟨b,o,e.1.trans h1,this⟩}
theorem xr (hx:l[k]?=some x) (h:(l.take k).contains id=false) (bm:¬ x=id):(l.take (k+1)).contains id=false:=by
 rw [List.take_add_one,hx,List.contains_append,h];simpa using fun e:id=x=>bm e.symm
theorem sj (p:Option Addr) (c n:Nat) (l:List Int) (en:Hid (l.length=n)) (id:Int) (w:World) (h:iA w (.slice p n c) l) (hl:n<=1048576) (B:Bool) (eB:Hid (l.contains id=B)) :
  Calls prog 107 #[.slice p n c,.int .u64 id] w fun r w'=>r=.returned (.bool B)/\Below w.heap.size w w':=by
 have HR:=ae fun (w':World) (hb:Below w.heap.size w w')=>h.below hb;go_enter func107,ntmps107;go_wp2
 go_loopw [5] (fun iv wr=>∃ k:Nat,k<=n/\iv=.int .i64 k/\Hid ((l.take k).contains id=false)/\Hid (Below w.heap.size w wr)) (fun iv _=>n-(intOf iv).toNat)
 case atStart=>exact ⟨0,Nat.zero_le _,rfl,(by show _=_;simp),Below.refl _ _⟩
 case round =>(
 obtain ⟨k,hk,rfl,hc,aE⟩:=hrel;by_cases aU:k<n;{
 have aV:(k:Int)<(n:Int):=by omega
 obtain ⟨x,hx⟩:∃ x,l[k]?=some x:=⟨_,aH (by rw [aa en];exact aU)⟩;obtain ⟨b,o,rfl,sQ⟩:=(aa HR _ aE).at hx;have HX:=ae hx;by_cases he:x=id;{
 subst he;have GF:(x==x)=true:=by simp
 go_wp2;go_ret;refine ⟨?_,aE⟩;rw [<-aa eB,List.contains_iff_mem.2 (aL (aa HX))]
 rfl}
 {
 have cF:=ae (xr HX hc he);go_wp2;go_roundw
 case rel=>exact ⟨k+1,by omega,by go_num,cF,aE⟩
 case measure=>simp [intOf];omega}}
 {
 have aV:¬ (k:Int)<(n:Int):=by omega
 have gq:=aa hc;rw [List.take_of_length_le (by rw [aa en];omega),aa eB] at gq;subst gq;go_wp2;go_ret;exact ⟨rfl,aE⟩})
theorem Oq (hx:l[k]?=some x):mh (l.take (k+1)) id=if x=id then mh (l.take k) id else mh (l.take k) id++[x]:=by
 rw [List.take_add_one,hx,mh,List.filter_append];by_cases h:x=id<;>simp [mh,h]
theorem mT (l:List Int) (id:Int):(mh l id).length<=l.length:=List.length_filter_le _ _
theorem oR (p:Option Addr) (c n:Nat) (l:List Int) (en:Hid (l.length=n)) (id:Int) (w:World) (h:iA w (.slice p n c) l) (hl:n<=1048576) :
  Calls prog 98 #[.slice p n c,.int .u64 id] w fun r w'=>∃ p' c',r=.returned (.slice p' (mh l id).length c')/\ga w.heap.size w' (.slice p' (mh l id).length c') (mh l id)/\Below w.heap.size w w':=by
 have HR:=ae fun (w':World) (hb:Below w.heap.size w w')=>h.below hb;go_enter func98,ntmps98;go_wp2
 go_loopw [5,6] (fun ov iv wr=>∃ (k:Nat) (L:List Int),k<=n/\iv=.int .i64 k/\Hid (mh (l.take k) id=L)/\Hid (ga w.heap.size wr ov L)/\Hid (Below w.heap.size w wr)) (fun _ iv _=>n-(intOf iv).toNat)
 case atStart=>exact ⟨0,[],Nat.zero_le _,rfl,(by show _=_;simp [mh]),(by show ga _ _ _ _;simpa [ga] using World.ownsRow_nil w w.heap.size 22 1),Below.refl _ _⟩
 case round =>(
 obtain ⟨k,L,hk,rfl,hL,ho,aE⟩:=hrel;obtain ⟨pv,cv,rfl⟩:=ho.form;have zr:=aE.size;have KP:L.length<4194304:=by have h1:=mT (l.take k) id;have h2:=List.length_take_le k l;rw [aa hL] at h1;have:=aa en;omega
 by_cases aU:k<n;{
 have aV:(k:Int)<(n:Int):=by omega
 obtain ⟨x,hx⟩:∃ x,l[k]?=some x:=⟨_,aH (by rw [aa en];exact aU)⟩;obtain ⟨b,o,rfl,sQ⟩:=(aa HR _ aE).at hx;have cF:=Oq (id:=id) hx;rw [aa hL] at cF;have jl:=ae cF;by_cases he:x=id;{
 subst he;have E1:Hid (mh (l.take (k+1)) x=L):=by have:=aa jl;rwa [if_pos rfl] at this
 go_wp2;go_roundw
 case rel=>exact ⟨k+1,L,by omega,by go_num,E1,ho,aE⟩
 case measure=>simp [intOf];omega}
 {
 have E1:Hid (mh (l.take (k+1)) id=L++[x]):=by have:=aa jl;rwa [if_neg he] at this
 go_wp2_with (at_builtin;refine dU rfl _ _ rfl w.heap.size (.slice pv L.length cv) L (L++[x]) x (ae rfl) wr.heap.size rfl rfl (ga.below (aa ho) (ar.alloc ay _)) (by simp) KP (by simp;omega) ?_);intro p' c' w' o2 dY;have bA:Below wr.heap.size wr (wr.alloc (.cells #[.int .u64 x] 22)):=ar.alloc ay _;have b4:=ae ((ai (aa aE) bA).grown dY (by simp;omega) (fun b' e=>(ho.lt b' e).1));have O2:=ae o2;go_wp2;go_roundw
 case rel=>exact ⟨k+1,L++[x],by omega,by go_num,E1,O2,b4⟩
 case measure=>simp [intOf];omega}}
 {
 have aV:¬ (k:Int)<(n:Int):=by omega
 have gq:=aa hL;rw [List.take_of_length_le (by rw [aa en];omega)] at gq;subst gq;go_wp2;go_ret;exact ⟨_,_,rfl,ho,aE⟩})
def tQ (id:Int) (s:List Int × Bool) (x:Int):List Int × Bool:=if s.2=false/\id<=x then (if x=id then (s.1++[id],true) else (s.1++[id]++[x],true)) else (if x=id then s else (s.1++[x],s.2))
def I9 (l:List Int) (id:Int):List Int × Bool:=l.foldl (tQ id) ([],false)
theorem qI (id:Int):∀ (l acc:List Int),l.foldl (tQ id) (acc,true)=(acc++mh l id,true)
 | [],acc=>by simp [mh]
 | x::r,acc=>by rw [List.foldl_cons];by_cases h:x=id;{rw [show tQ id (acc,true) x=(acc,true) by simp [tQ,h],qI id r acc];simp [mh,h]};{rw [show tQ id (acc,true) x=(acc++[x],true) by simp [tQ,h],qI id r (acc++[x])];simp [mh,h]}
theorem Tt (l:List Int) (id:Int):(if (I9 l id).2 then (I9 l id).1 else (I9 l id).1++[id])=mi l id:=by
 have key:∀ (l acc:List Int),(if (l.foldl (tQ id) (acc,false)).2 then (l.foldl (tQ id) (acc,false)).1 else (l.foldl (tQ id) (acc,false)).1++[id])=acc++mi l id:=by
  intro l
  induction l with
  | nil=>intro acc;simp [mi]
  | cons x r ih=>
   intro acc;rw [List.foldl_cons,mi];by_cases h:id<=x;{by_cases e:x=id;{rw [show tQ id (acc,false) x=(acc++[id],true) by simp [tQ,e],qI,if_pos h];simp [mh,e]};{rw [show tQ id (acc,false) x=(acc++[id]++[x],true) by simp [tQ,e,h],qI,if_pos h];simp [mh,e]}};{
 have e:¬ x=id:=by omega
 rw [show tQ id (acc,false) x=(acc++[x],false) by simp [tQ,e,h],ih (acc++[x]),if_neg h];simp}
 have:=key l [];rw [List.nil_append] at this;exact this
theorem Ot (hx:l[k]?=some x):I9 (l.take (k+1)) id=tQ id (I9 (l.take k) id) x:=by
 rw [List.take_add_one,hx,I9,List.foldl_append]
 rfl
theorem Ou (id:Int) (s:List Int × Bool) (x:Int):(tQ id s x).1.length<=s.1.length+2:=by
 unfold tQ;split<;>split<;>simp
theorem Gd (id:Int):∀ (l:List Int) (s:List Int × Bool),(l.foldl (tQ id) s).1.length<=s.1.length+2*l.length
 | [],s=>by simp
 | x::r,s=>by have:=Gd id r (tQ id s x);have:=Ou id s x;rw [List.foldl_cons,List.length_cons];omega
theorem uT (p:Option Addr) (c n:Nat) (l:List Int) (en:Hid (l.length=n)) (id:Int) (w:World) (h:iA w (.slice p n c) l) (hl:n<=1048576) :
  Calls prog 108 #[.slice p n c,.int .u64 id] w fun r w'=>∃ p' c',r=.returned (.slice p' (mi l id).length c')/\ga w.heap.size w' (.slice p' (mi l id).length c') (mi l id)/\Below w.heap.size w w':=by
 have HR:=ae fun (w':World) (hb:Below w.heap.size w w')=>h.below hb;go_enter func108,ntmps108;go_wp2
 go_loopw [5,6,7] (fun ov dv iv wr=>∃ (k:Nat) (L:List Int) (d:Bool),k<=n/\iv=.int .i64 k/\dv=.bool d/\Hid (I9 (l.take k) id=(L,d))/\Hid (ga w.heap.size wr ov L)/\Hid (Below w.heap.size w wr)) (fun _ _ iv _=>n-(intOf iv).toNat)
 case atStart=>exact ⟨0,[],false,Nat.zero_le _,rfl,rfl,(by show _=_;rfl),(by show ga _ _ _ _;simpa [ga] using World.ownsRow_nil w w.heap.size 22 1),Below.refl _ _⟩
 case round =>(
 obtain ⟨k,L,d,hk,rfl,rfl,hL,ho,aE⟩:=hrel;obtain ⟨pv,cv,rfl⟩:=ho.form;have zr:=aE.size;have KP:L.length+1<4194304:=by have h1:=Gd id (l.take k) ([],false);have h2:=List.length_take_le k l;have h3:=aa hL;unfold I9 at h3;rw [h3] at h1;have:=aa en;simp only [List.length_nil] at h1;omega
 by_cases aU:k<n;{
 have aV:(k:Int)<(n:Int):=by omega
 obtain ⟨x,hx⟩:∃ x,l[k]?=some x:=⟨_,aH (by rw [aa en];exact aU)⟩;obtain ⟨b,o,rfl,sQ⟩:=(aa HR _ aE).at hx;have cF:=Ot (id:=id) hx;rw [aa hL] at cF;have jl:=ae cF;have HX:=ae hx;have AP:∀ (y:Int) (wz:World) (Lz:List Int) (pz:Option Addr) (cz:Nat),Hid (ga w.heap.size wz (.slice pz Lz.length cz) Lz)->Below w.heap.size w wz->Below wz.heap.size wz (wz.alloc (.cells #[.int .u64 y] 22)):=fun y wz Lz pz cz _ _=>ar.alloc ay _;by_cases hd:d=false/\id<=x;{
 obtain ⟨rfl,hix⟩:=hd;have bC3:decide (id<=x)=true:=by simpa using hix
 obtain ⟨L1,sC⟩:∃ L1,Hid (L1=L++[id]):=⟨_,ae rfl⟩;have lL1:=ae (by rw [aa sC];simp:L1.length=L.length+1);go_wp2_with (at_builtin;refine dU rfl _ _ rfl w.heap.size (.slice pv L.length cv) L L1 id sC wr.heap.size rfl rfl (ga.below (aa ho) (ar.alloc ay _)) (by simp) (by omega) (by simp;omega) ?_);intro p' c' w' o2 dY;have b4:=ae ((ai (aa aE) (AP id wr L pv cv ho (aa aE))).grown dY (by simp;omega) (fun b' e=>(ho.lt b' e).1));have O2:=ae o2;have z4:=b4.size;have aF2:w'.cell? ⟨b,o+k,none⟩=some (.int .u64 x):=by obtain ⟨b',o',e',gq⟩:=(aa HR _ b4).at HX;simp only [Option.some.injEq,Addr.mk.injEq,and_true] at e';obtain ⟨rfl,rfl⟩:=e';exact gq
 by_cases he:x=id;{
 subst he;have E1:=ae (by have:=aa jl;rw [aa sC];simpa [tQ] using this:I9 (l.take (k+1)) x=(L1,true));have GF:(x != x)=false:=by simp
 go_wp2;go_roundw
 case rel=>exact ⟨k+1,L1,true,by omega,by go_num,rfl,E1,O2,b4⟩
 case measure=>simp [intOf];omega}
 {
 have E1:=ae (by have:=aa jl;rw [aa sC];simpa [tQ,he,hix] using this:I9 (l.take (k+1)) id=(L1++[x],true));obtain ⟨L2,DW⟩:∃ L2,Hid (L2=L1++[x]):=⟨_,ae rfl⟩;rw [<-aa DW] at E1;go_wp2_with (at_builtin;refine dU rfl _ _ rfl w.heap.size (.slice p' L1.length c') L1 L2 x DW w'.heap.size rfl rfl (ga.below (aa O2) (ar.alloc ay _)) (by simp) (by have:=aa lL1;omega) (by simp;omega) ?_);intro p'' c'' w'' o3 pf;have b5:=ae ((ai (aa b4) (AP x w' _ p' c' O2 (aa b4))).grown pf (by simp;omega) (fun b' e=>(O2.lt b' e).1));have O3:=ae o3;go_wp2;go_roundw
 case rel=>exact ⟨k+1,_,true,by omega,by go_num,rfl,E1,O3,b5⟩
 case measure=>simp [intOf];omega}}
 {
 have hdd:(!d&&decide (id<=x))=false:=by cases d<;>simp_all
 have hd2:d=true\/¬ id<=x:=by cases d<;>simp_all
 by_cases he:x=id;{
 subst he;have hdt:d=true:=hd2.resolve_right (by omega);subst hdt;have E1:=ae (by have:=aa jl;simpa [tQ] using this:I9 (l.take (k+1)) x=(L,true));have GF:(x != x)=false:=by simp
 go_wp2;go_roundw
 case rel=>exact ⟨k+1,L,true,by omega,by go_num,rfl,E1,ho,aE⟩
 case measure=>simp [intOf];omega}
 {
 have E1:=ae (by have:=aa jl;simpa [tQ,he,hd] using this:I9 (l.take (k+1)) id=(L++[x],d));obtain ⟨L1,sC⟩:∃ L1,Hid (L1=L++[x]):=⟨_,ae rfl⟩;rw [<-aa sC] at E1;have hdq:d=false->decide (id<=x)=false:=fun e=>by subst e;simpa using hd
 cases d;{
 have hix:=hdq rfl;go_wp2_with (at_builtin;refine dU rfl _ _ rfl w.heap.size (.slice pv L.length cv) L L1 x sC wr.heap.size rfl rfl (ga.below (aa ho) (ar.alloc ay _)) (by simp) (by omega) (by simp;omega) ?_);intro p' c' w' o2 dY;have b4:=ae ((ai (aa aE) (AP x wr L pv cv ho (aa aE))).grown dY (by simp;omega) (fun b' e=>(ho.lt b' e).1));have O2:=ae o2;go_wp2;go_roundw
 case rel=>exact ⟨k+1,_,false,by omega,by go_num,rfl,E1,O2,b4⟩
 case measure=>simp [intOf];omega}
 {
 go_wp2_with (at_builtin;refine dU rfl _ _ rfl w.heap.size (.slice pv L.length cv) L L1 x sC wr.heap.size rfl rfl (ga.below (aa ho) (ar.alloc ay _)) (by simp) (by omega) (by simp;omega) ?_);intro p' c' w' o2 dY;have b4:=ae ((ai (aa aE) (AP x wr L pv cv ho (aa aE))).grown dY (by simp;omega) (fun b' e=>(ho.lt b' e).1));have O2:=ae o2;go_wp2;go_roundw
 case rel=>exact ⟨k+1,_,true,by omega,by go_num,rfl,E1,O2,b4⟩
 case measure=>simp [intOf];omega}}}}
 {
 have aV:¬ (k:Int)<(n:Int):=by omega
 have gq:=aa hL;rw [List.take_of_length_le (by rw [aa en];omega)] at gq;have Yl:=Tt l id;rw [gq] at Yl;cases d;{obtain ⟨L1,sC⟩:∃ L1,Hid (L1=L++[id]):=⟨_,ae rfl⟩;have E1:=ae (by rw [aa sC];simpa using Yl.symm:mi l id=L1);go_wp2_with (at_builtin;refine dU rfl _ _ rfl w.heap.size (.slice pv L.length cv) L L1 id sC wr.heap.size rfl rfl (ga.below (aa ho) (ar.alloc ay _)) (by simp) (by omega) (by simp;omega) ?_);intro p' c' w' o2 dY;have b4:=ae ((ai (aa aE) ((Below.refl wr.heap.size wr).alloc ay _)).grown dY (by simp;omega) (fun b' e=>(ho.lt b' e).1));have O2:=ae o2;go_wp2;go_ret;rw [aa E1];exact ⟨_,_,rfl,O2,b4⟩};{have E1:=ae (by simpa using Yl.symm:mi l id=L);go_wp2;go_ret;rw [aa E1];exact ⟨_,_,rfl,ho,aE⟩}})
end Go.Proofs.YtmfjiolopcbcmaaGreatDoor
