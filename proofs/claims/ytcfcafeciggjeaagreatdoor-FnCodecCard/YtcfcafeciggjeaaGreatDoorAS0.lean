import Derived.Test.YtcfcafeciggjeaaGreatDoorK20
namespace Go.Proofs.YtcfcafeciggjeaaGreatDoor
set_option maxHeartbeats 3200000
set_option linter.all false
set_option maxRecDepth 100000
open Go.ChangeShapes Go.WideShapes Go.ChangeAt Go.RowKit Go.Proofs.Tryz
variable {k:Nat} {l:List Int}
theorem ua.rdu {B:Nat} {w:World} {v:Value} (h:ua B w v l):nH w v l:=by
 rcases h.2 with ⟨rfl,h0⟩ | ⟨g,cap,cur,rfl,hb,hg,hr⟩;{exact ⟨none,0,by rw [h0],.inl (List.length_eq_zero_iff.1 h0)⟩};{refine ⟨_,cap,rfl,.inr ⟨g,0,rfl,fun i hi=>?_⟩⟩;have:=World.ownsRow.cellAt h i ab;rw [Nat.zero_add,this];simp [List.getD_eq_getElem?_getD,hi]}
theorem nH.at {w:World} {p:Option Addr} {n c:Nat} (h:nH w (.S p n c) l) {x:Int} (hx:l[k]?=some x):∃ b o,p=some ⟨b,o,none⟩/\w.cell? ⟨b,o+k,none⟩=some (.U x):=by
 obtain ⟨p',c',e,hd⟩:=h;have hk:=(aN.1 hx).1;rcases hd with h0 | ⟨b,o,h1,h2⟩;{rw [h0] at hk;simp at hk};{simp only [Value.slice.injEq] at e;have:=h2 k hk;rw [List.getD_eq_getElem?_getD,hx,Option.getD_some] at this;exact ⟨b,o,e.1.trans h1,this⟩}
theorem yK {x id:Int} (hx:l[k]?=some x) (h:(l.take k).contains id=false) (gd:¬ x=id):(l.take (k+1)).contains id=false:=by
 rw [List.take_add_one,hx,List.contains_append,h];simpa using fun e:id=x=>gd e.symm
theorem tC (p:Option Addr) (c n:Nat) (l:List Int) (en:Hid (l.length=n)) (id:Int) (w:World) (h:nH w (.S p n c) l) (hl:n<=1048576) (B:Bool) (eB:Hid (l.contains id=B)) :
  Calls prog 154 #[.S p n c,.U id] w fun r w'=>r=.returned (.bool B)/\Bw w w':=by
 have HR:=ae fun (w':World) (hb:Bw w w')=>h.below hb;go_enter func154,ntmps154;go_wp2
 go_loopw [5] (fun iv wr=>∃ k:Nat,k<=n/\iv=.I k/\Hid ((l.take k).contains id=false)/\Hid (Bw w wr)) (fun iv _=>n-(intOf iv).toNat)
 case atStart=>exact ⟨0,Nat.zero_le _,rfl,(by show _=_;simp),Below.refl _ _⟩
 case round =>(
 obtain ⟨k,hk,rfl,hc,aR⟩:=hrel;by_cases bj:k<n;{
 have da:=aT k n;obtain ⟨x,hx⟩:∃ x,l[k]?=some x:=⟨_,aK (by rw [aa en];exact bj)⟩;obtain ⟨b,o,rfl,zO⟩:=(aa HR _ aR).at hx;have HX:=ae hx;by_cases he:x=id;{
 subst he;have Ho:(x==x)=true:=aU;go_wp2;go_ret;refine ⟨?_,aR⟩;rw [<-aa eB,List.contains_iff_mem.2 (aF (aa HX))]
 rfl}
 {
 have dz:=ae (yK HX hc he);go_wp2;go_roundw
 case rel=>exact ⟨k+1,ab,by go_num,dz,aR⟩
 exact dC}};{have da:=dy k n;have iw:=aa hc;rw [List.take_of_length_le (by rw [aa en];omega),aa eB] at iw;subst iw;go_wp2;go_ret;exact ⟨rfl,aR⟩})
theorem PJ {x id:Int} (hx:l[k]?=some x):lQ (l.take (k+1)) id=if x=id then lQ (l.take k) id else lQ (l.take k) id++[x]:=by
 rw [List.take_add_one,hx,lQ,List.filter_append];by_cases h:x=id<;>simp [lQ,h]
theorem nW (l:List Int) (id:Int):(lQ l id).length<=l.length:=List.length_filter_le _ _
theorem pZ (p:Option Addr) (c n:Nat) (l:List Int) (en:Hid (l.length=n)) (id:Int) (w:World) (h:nH w (.S p n c) l) (hl:n<=1048576) :
  Calls prog 148 #[.S p n c,.U id] w fun r w'=>∃ p' c',r=.returned (.S p' (lQ l id).length c')/\iK w.heap.size w' (.S p' (lQ l id).length c') (lQ l id)/\Bw w w':=by
 have HR:=ae fun (w':World) (hb:Bw w w')=>h.below hb;go_enter func148,ntmps148;go_wp2
 go_loopw [5,6] (fun ov iv wr=>∃ (k:Nat) (L:List Int),k<=n/\iv=.I k/\Hid (lQ (l.take k) id=L)/\Hid (iK w.heap.size wr ov L)/\Hid (Bw w wr)) (fun _ iv _=>n-(intOf iv).toNat)
 case atStart=>exact ⟨0,[],Nat.zero_le _,rfl,(by show _=_;simp [lQ]),(iK.nil _ _),Below.refl _ _⟩
 case round =>(
 obtain ⟨k,L,hk,rfl,hL,ho,aR⟩:=hrel;obtain ⟨pv,cv,rfl⟩:=ho.form;have zr:=aR.size;have Q8:L.length<4194304:=by have h1:=nW (l.take k) id;have h2:=List.length_take_le k l;rw [aa hL] at h1;have:=aa en;omega
 by_cases bj:k<n;{
 have da:=aT k n;obtain ⟨x,hx⟩:∃ x,l[k]?=some x:=⟨_,aK (by rw [aa en];exact bj)⟩;obtain ⟨b,o,rfl,zO⟩:=(aa HR _ aR).at hx;have dz:=PJ (id:=id) hx;rw [aa hL] at dz;have lr:=ae dz;by_cases he:x=id;{
 subst he;have E1:Hid (lQ (l.take (k+1)) x=L):=by have:=aa lr;rwa [if_pos rfl] at this
 go_wp2;go_roundw
 case rel=>exact ⟨k+1,L,ab,by go_num,E1,ho,aR⟩
 exact dC};{
 have E1:Hid (lQ (l.take (k+1)) id=L++[x]):=by have:=aa lr;rwa [if_neg he] at this
 go_wp2_with (at_builtin;refine fw rfl _ _ rfl w.heap.size (.S pv L.length cv) L (L++[x]) x (ae rfl) wr.heap.size rfl rfl (iK.below (aa ho) (aJ.alloc aA _)) aU Q8 dx ?_);intro p' c' w' o2 fU;have bA:Bw wr (wr.alloc (.cells #[.U x] 23)):=aJ.alloc aA _;have b4:=ae ((ah (aa aR) bA).grown fU dx (fun b' e=>(ho.lt b' e).1));have O2:=ae o2;go_wp2;go_roundw
 case rel=>exact ⟨k+1,L++[x],ab,by go_num,E1,O2,b4⟩
 exact dC}};{have da:=dy k n;have iw:=aa hL;rw [List.take_of_length_le (by rw [aa en];omega)] at iw;subst iw;go_wp2;go_ret;exact ⟨_,_,rfl,ho,aR⟩})
def vr (id:Int) (s:List Int × Bool) (x:Int):List Int × Bool:=if s.2=false/\id<=x then (if x=id then (s.1++[id],true) else (s.1++[id]++[x],true)) else (if x=id then s else (s.1++[x],s.2))
def JO (l:List Int) (id:Int):List Int × Bool:=l.foldl (vr id) ([],false)
theorem rB (id:Int):∀ (l acc:List Int),l.foldl (vr id) (acc,true)=(acc++lQ l id,true)
 | [],acc=>by simp [lQ]
 | x::r,acc=>by rw [List.foldl_cons];by_cases h:x=id;{rw [show vr id (acc,true) x=(acc,true) by simp [vr,h],rB id r acc];simp [lQ,h]};{rw [show vr id (acc,true) x=(acc++[x],true) by simp [vr,h],rB id r (acc++[x])];simp [lQ,h]}
theorem UN (l:List Int) (id:Int):(if (JO l id).2 then (JO l id).1 else (JO l id).1++[id])=ig l id:=by
 have key:∀ (l acc:List Int),(if (l.foldl (vr id) (acc,false)).2 then (l.foldl (vr id) (acc,false)).1 else (l.foldl (vr id) (acc,false)).1++[id])=acc++ig l id:=by
  intro l
  induction l with
  | nil=>intro acc;simp [ig]
  | cons x r ih=>
   intro acc;rw [List.foldl_cons,ig];by_cases h:id<=x;{by_cases e:x=id;{rw [show vr id (acc,false) x=(acc++[id],true) by simp [vr,e],rB,if_pos h];simp [lQ,e]};{rw [show vr id (acc,false) x=(acc++[id]++[x],true) by simp [vr,e,h],rB,if_pos h];simp [lQ,e]}};{have e:¬ x=id:=ab;rw [show vr id (acc,false) x=(acc++[x],false) by simp [vr,e,h],ih (acc++[x]),if_neg h];simp}
 have:=key l [];rw [List.nil_append] at this;exact this
theorem PK {x id:Int} (hx:l[k]?=some x):JO (l.take (k+1)) id=vr id (JO (l.take k) id) x:=by
 rw [List.take_add_one,hx,JO,List.foldl_append]
 rfl
theorem PM (id:Int) (s:List Int × Bool) (x:Int):(vr id s x).1.length<=s.1.length+2:=by
 unfold vr;split<;>split<;>simp
theorem GH (id:Int):∀ (l:List Int) (s:List Int × Bool),(l.foldl (vr id) s).1.length<=s.1.length+2*l.length
 | [],s=>aU
 | x::r,s=>by have:=GH id r (vr id s x);have:=PM id s x;rw [List.foldl_cons,List.length_cons];omega
theorem qJ (p:Option Addr) (c n:Nat) (l:List Int) (en:Hid (l.length=n)) (id:Int) (w:World) (h:nH w (.S p n c) l) (hl:n<=1048576) :
  Calls prog 136 #[.S p n c,.U id] w fun r w'=>∃ p' c',r=.returned (.S p' (ig l id).length c')/\iK w.heap.size w' (.S p' (ig l id).length c') (ig l id)/\Bw w w':=by
 have HR:=ae fun (w':World) (hb:Bw w w')=>h.below hb;go_enter func136,ntmps136;go_wp2
 go_loopw [5,6,7] (fun ov dv iv wr=>∃ (k:Nat) (L:List Int) (d:Bool),k<=n/\iv=.I k/\dv=.bool d/\Hid (JO (l.take k) id=(L,d))/\Hid (iK w.heap.size wr ov L)/\Hid (Bw w wr)) (fun _ _ iv _=>n-(intOf iv).toNat)
 case atStart=>exact ⟨0,[],false,Nat.zero_le _,rfl,rfl,cw,(iK.nil _ _),Below.refl _ _⟩
 case round =>(
 obtain ⟨k,L,d,hk,rfl,rfl,hL,ho,aR⟩:=hrel;obtain ⟨pv,cv,rfl⟩:=ho.form;have zr:=aR.size;have Q8:L.length+1<4194304:=by have h1:=GH id (l.take k) ([],false);have h2:=List.length_take_le k l;have h3:=aa hL;unfold JO at h3;rw [h3] at h1;have:=aa en;simp only [List.length_nil] at h1;omega
 by_cases bj:k<n;{
 have da:=aT k n;obtain ⟨x,hx⟩:∃ x,l[k]?=some x:=⟨_,aK (by rw [aa en];exact bj)⟩;obtain ⟨b,o,rfl,zO⟩:=(aa HR _ aR).at hx;have dz:=PK (id:=id) hx;rw [aa hL] at dz;have lr:=ae dz;have HX:=ae hx;have AP:∀ (y:Int) (wz:World) (Lz:List Int) (pz:Option Addr) (cz:Nat),Hid (iK w.heap.size wz (.S pz Lz.length cz) Lz)->Bw w wz->Bw wz (wz.alloc (.cells #[.U y] 23)):=fun y wz Lz pz cz _ _=>aJ.alloc aA _;by_cases hd:d=false/\id<=x;{
 obtain ⟨rfl,V8⟩:=hd;have bT4:decide (id<=x)=true:=by simpa using V8
 obtain ⟨L1,Nx⟩:∃ L1,Hid (L1=L++[id]):=⟨_,ae rfl⟩;have lL1:=ae (by rw [aa Nx];simp:L1.length=L.length+1);go_wp2_with (at_builtin;refine fw rfl _ _ rfl w.heap.size (.S pv L.length cv) L L1 id Nx wr.heap.size rfl rfl (iK.below (aa ho) (aJ.alloc aA _)) aU ab dx ?_);intro p' c' w' o2 fU;have b4:=ae ((ah (aa aR) (AP id wr L pv cv ho (aa aR))).grown fU dx (fun b' e=>(ho.lt b' e).1));have O2:=ae o2;have z4:=b4.size;have bV1:w'.cell? ⟨b,o+k,none⟩=some (.U x):=by obtain ⟨b',o',e',iw⟩:=(aa HR _ b4).at HX;obtain ⟨rfl,rfl⟩:=jf e';exact iw
 by_cases he:x=id;{
 subst he;have E1:=ae (by have:=aa lr;rw [aa Nx];simpa [vr] using this:JO (l.take (k+1)) x=(L1,true));have Ho:(x != x)=false:=aU;go_wp2;go_roundw
 case rel=>exact ⟨k+1,L1,true,ab,by go_num,rfl,E1,O2,b4⟩
 exact dC};{
 have E1:=ae (by have:=aa lr;rw [aa Nx];simpa [vr,he,V8] using this:JO (l.take (k+1)) id=(L1++[x],true));obtain ⟨L2,eL2⟩:∃ L2,Hid (L2=L1++[x]):=⟨_,ae rfl⟩;rw [<-aa eL2] at E1;go_wp2_with (at_builtin;refine fw rfl _ _ rfl w.heap.size (.S p' L1.length c') L1 L2 x eL2 w'.heap.size rfl rfl (iK.below (aa O2) (aJ.alloc aA _)) aU (by have:=aa lL1;omega) dx ?_);intro p'' c'' w'' o3 uA;have b5:=ae ((ah (aa b4) (AP x w' _ p' c' O2 (aa b4))).grown uA dx (fun b' e=>(O2.lt b' e).1));have O3:=ae o3;go_wp2;go_roundw
 case rel=>exact ⟨k+1,_,true,ab,by go_num,rfl,E1,O3,b5⟩
 exact dC}};{
 have hdd:(!d&&decide (id<=x))=false:=by cases d<;>simp_all
 have hd2:d=true\/¬ id<=x:=by cases d<;>simp_all
 by_cases he:x=id;{
 subst he;have hdt:d=true:=hd2.resolve_right ab;subst hdt;have E1:=ae (by have:=aa lr;simpa [vr] using this:JO (l.take (k+1)) x=(L,true));have Ho:(x != x)=false:=aU;go_wp2;go_roundw
 case rel=>exact ⟨k+1,L,true,ab,by go_num,rfl,E1,ho,aR⟩
 exact dC};{
 have E1:=ae (by have:=aa lr;simpa [vr,he,hd] using this:JO (l.take (k+1)) id=(L++[x],d));obtain ⟨L1,Nx⟩:∃ L1,Hid (L1=L++[x]):=⟨_,ae rfl⟩;rw [<-aa Nx] at E1;have hdq:d=false->decide (id<=x)=false:=fun e=>by subst e;simpa using hd
 cases d;{
 have V8:=hdq rfl;go_wp2_with (at_builtin;refine fw rfl _ _ rfl w.heap.size (.S pv L.length cv) L L1 x Nx wr.heap.size rfl rfl (iK.below (aa ho) (aJ.alloc aA _)) aU ab dx ?_);intro p' c' w' o2 fU;have b4:=ae ((ah (aa aR) (AP x wr L pv cv ho (aa aR))).grown fU dx (fun b' e=>(ho.lt b' e).1));have O2:=ae o2;go_wp2;go_roundw
 case rel=>exact ⟨k+1,_,false,ab,by go_num,rfl,E1,O2,b4⟩
 exact dC};{
 go_wp2_with (at_builtin;refine fw rfl _ _ rfl w.heap.size (.S pv L.length cv) L L1 x Nx wr.heap.size rfl rfl (iK.below (aa ho) (aJ.alloc aA _)) aU ab dx ?_);intro p' c' w' o2 fU;have b4:=ae ((ah (aa aR) (AP x wr L pv cv ho (aa aR))).grown fU dx (fun b' e=>(ho.lt b' e).1));have O2:=ae o2;go_wp2;go_roundw
 case rel=>exact ⟨k+1,_,true,ab,by go_num,rfl,E1,O2,b4⟩
 exact dC}}}};{have da:=dy k n;have iw:=aa hL;rw [List.take_of_length_le (by rw [aa en];omega)] at iw;have hwi:=UN l id;rw [iw] at hwi;cases d;{obtain ⟨L1,Nx⟩:∃ L1,Hid (L1=L++[id]):=⟨_,ae rfl⟩;have E1:=ae (by rw [aa Nx];simpa using hwi.symm:ig l id=L1);go_wp2_with (at_builtin;refine fw rfl _ _ rfl w.heap.size (.S pv L.length cv) L L1 id Nx wr.heap.size rfl rfl (iK.below (aa ho) (aJ.alloc aA _)) aU ab dx ?_);intro p' c' w' o2 fU;have b4:=ae ((ah (aa aR) ((Below.refl wr.heap.size wr).alloc aA _)).grown fU dx (fun b' e=>(ho.lt b' e).1));have O2:=ae o2;go_wp2;go_ret;rw [aa E1];exact ⟨_,_,rfl,O2,b4⟩};{have E1:=ae (by simpa using hwi.symm:ig l id=L);go_wp2;go_ret;rw [aa E1];exact ⟨_,_,rfl,ho,aR⟩}})
end Go.Proofs.YtcfcafeciggjeaaGreatDoor
