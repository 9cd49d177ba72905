import Derived.Test.YtcfcafeciggjeaaGreatDoorK42
namespace Go.Proofs.YtcfcafeciggjeaaGreatDoor
set_option linter.all false
set_option maxRecDepth 100000
open Go.ChangeShapes Go.WideShapes Go.ChangeAt Go.RowKit Go.Deep
variable {D:SD} {P V:List Int} {k:Nat} {nd:aD} {ns:List aD}
def Nb (b:Nat) (w v:World):Prop:=Below b w v/\w.heap.size<=v.heap.size/\∀ k,k<w.heap.size->k≠b->v.heap[k]?=w.heap[k]?
section
variable {b:Nat} {w v u:World}
theorem Nb.lo {n:Nat} (h:Nb b w v) (e:n=b):Below n w v:=e▸h.1
theorem Nb.refl (b:Nat) (w:World):Nb b w w:=⟨Below.refl _ _,Nat.le_refl _,fun _ _ _=>rfl⟩
theorem Nb.of (hb:b<=w.heap.size) (h:Bw w v):Nb b w v:=⟨h.mono hb,h.size,fun k hk _=>h.block k hk⟩
theorem Nb.trans (h:Nb b w v) (h2:Nb b v u):Nb b w u:=⟨h.1.trans h2.1,Nat.le_trans h.2.1 h2.2.1,fun k hk bL=>(h2.2.2 k (Nat.lt_of_lt_of_le hk h.2.1) bL).trans (h.2.2 k hk bL)⟩
theorem Nb.set (b j:Nat) (w:World) (u:Value):Nb b w (w.setCell ⟨b,j,none⟩ u):=⟨aJ.setCell (p:=⟨b,j,none⟩) aA _,((Below.refl b w).setCell (p:=⟨b,j,none⟩) aA u).size,fun k _ bL=>dF _ _ _ _ bL⟩
theorem Nb.fr {ty:TypeId} (h:Nb b w v) (ht:∃ cur,w.heap[b]?=some (.cells cur ty)):Fr [ty] w v:=⟨h.2.1,fun k cur t m hn hk=>by
 by_cases e:k=b;{subst e;obtain ⟨c2,hc⟩:=ht;rw [hk] at hc;simp only [Option.some.injEq,Obj.cells.injEq] at hc;exact absurd (by simp [hc.2.1]) hn};{exact (h.2.2 k (cF hk) e).trans hk}⟩
theorem Ax {o0 o1 o2 o3 o4 o5:Value} (hb:Bw w v) (ht:BX w b [o0,o1,o2,o3,o4,o5]) (v0 v1 v2 v3 v4 v5 r0 r1 r2 r3 r4 r5 r6 r7:Value) :
  ∃ X Y,X=v.alloc (.cells #[.I 0,.U 0,.U 0,.U 0,.I 0,.S none 0 0,.S none 0 0,.S none 0 0] 41)/\Y=fg (Proofs.YtcfcafeciggjeaaGreatDoor.bg X b v0 v1 v2 v3 v4 v5) v.heap.size r0 r1 r2 r3 r4 r5 r6 r7/\BX X b [o0,o1,o2,o3,o4,o5]/\RX X v.heap.size [.I 0,.U 0,.U 0,.U 0,.I 0,.S none 0 0,.S none 0 0,.S none 0 0]/\BX Y b [v0,v1,v2,v3,v4,v5]/\RX Y v.heap.size [r0,r1,r2,r3,r4,r5,r6,r7]/\Nb b w Y/\(∀ k,k<v.heap.size->k≠b->Y.heap[k]?=v.heap[k]?)/\v.heap.size<Y.heap.size:=by
 obtain ⟨X,hX,bX,zX,Ih⟩:=gw v (.I 0) (.U 0) (.U 0) (.U 0) (.I 0) (.S none 0 0) (.S none 0 0) (.S none 0 0);have lt:=ht.lt;have ls:=hb.size;have hx:=(ht.below hb).below bX;have ne:v.heap.size≠b:=by omega
 have p6:=hx.put v0 v1 v2 v3 v4 v5;have r6':=Ih.aS (fS (v0:=v0) (v1:=v1) (v2:=v2) (v3:=v3) (v4:=v4) (v5:=v5) ne);have p8:=(r6'.put r0 r1 r2 r3 r4 r5 r6 r7).1;have b6:=bt X b v0 v1 v2 v3 v4 v5;have b8:=aO (Proofs.YtcfcafeciggjeaaGreatDoor.bg X b v0 v1 v2 v3 v4 v5) v.heap.size r0 r1 r2 r3 r4 r5 r6 r7;have hk:∀ k,k<v.heap.size->k≠b->(fg (Proofs.YtcfcafeciggjeaaGreatDoor.bg X b v0 v1 v2 v3 v4 v5) v.heap.size r0 r1 r2 r3 r4 r5 r6 r7).heap[k]?=v.heap[k]?:=fun k h1 h2=>((gu (by omega)).trans (fS h2)).trans (bX.block k h1);have s6:=b6.size;have s8:=b8.size;exact ⟨X,_,hX,rfl,hx,Ih,p6.aS (gu (by omega)),p8,⟨(((hb.mono (by omega)).trans (bX.mono (by omega))).trans b6).trans (b8.mono (by omega)),by omega,fun k h1 h2=>(hk k (by omega) h2).trans (hb.block k h1)⟩,hk,by omega⟩
end
theorem U4 {ss:List aY} {i:Int} (h:i∈iD ss):¬ lT ss i<0:=by
 obtain ⟨s,hs,rfl⟩:=List.mem_map.1 h;unfold lT;cases hf:ss.findIdx? (fun y=>y.1==s.1) with
 | some i=>simp
 | none=>
  have:=List.findIdx?_eq_none_iff.1 hf s hs;simp at this
theorem Vj (h:¬ xY ns P<0):∃ (k:Nat) (nd:aD),xY ns P=k/\ns[k]?=some nd/\nd.path=P:=by
 unfold xY at h ⊢;cases hf:ns.findIdx? (fun nd=>decide (nd.path=P)) with
 | none=>rw [hf] at h;exact absurd (by decide) h
 | some i=>
  obtain ⟨bj,hp,-⟩:=List.findIdx?_eq_some_iff_getElem.1 hf;exact ⟨i,_,rfl,aK bj,by simpa using hp⟩
theorem Vk (hp:PD ns) (hk:ns[k]?=some nd):xY ns nd.path=k:=by
 have h:¬ xY ns nd.path<0:=by
  unfold xY;cases hf:ns.findIdx? (fun y=>decide (y.path=nd.path)) with
  | some i=>simp
  | none=>
   have:=List.findIdx?_eq_none_iff.1 hf nd (aF hk);simp at this
 obtain ⟨j,y,ej,hj,hy⟩:=Vj h;rw [ej,hp j k y nd hj hk hy]
theorem ac8 (hp:PD ns) (hk:ns[k]?=some nd):fE ns nd.path=some nd:=by
 unfold fE;cases hf:ns.find? (fun y=>decide (y.path=nd.path)) with
 | none=>
  have:=List.find?_eq_none.1 hf nd (aF hk);simp at this
 | some a=>
  have h1:=List.find?_some hf;obtain ⟨j,hj⟩:=List.mem_iff_getElem?.1 (List.mem_of_find?_eq_some hf);have e:=hp j k a nd hj hk (by simpa using h1);subst e;rw [hj] at hk;exact hk
theorem VD.pd (h:VD D):PD D.ns:=PD.pw h.n1
theorem xR (hd:VD D) {K S F E G:Int} (hk:D.ns[k]?=some nd) (hS:S∈iD D.ss) (hf:Af K S F nd.path.length V.length E G=true) (h7:K=7\/K=8\/K=9\/K=11):aM D K S F E G nd.path V=gI D k K S F V:=by
 have hv:=(hd.n2 nd (aF hk)).vp;have hs:=U4 hS;have hx:=Vk hd.pd hk;have hr:jA K nd.path=false:=by unfold jA;rcases h7 with rfl | rfl | rfl | rfl<;>simp
 unfold aM iA;rw [if_neg (by rw [hf];simp),if_neg (by omega),if_neg (by simp [hs]),if_neg (by omega),if_neg (by omega),if_neg (by omega),if_neg (by simp [hv]),if_neg (by omega),if_neg (by omega),if_neg (by rw [hx,hr];simp),if_neg (by omega),hx]
 rfl
theorem aa5 (hd:VD D) {S E G:Int} (hv:vp P=true) (hS:S∈iD D.ss):aM D 10 S 0 E G P []=(D,{ rp0 with n:=kI D.ns P S E G }):=by
 have hs:=U4 hS;have hf:Af 10 S 0 P.length 0 E G=true:=by simp [Af,vH,rowOf,Jf]
 unfold aM iA;rw [if_neg (by show ¬ Af 10 S 0 P.length 0 E G=false;rw [hf];simp),aw,if_neg (by simp [hs]),aw,aw,aw,if_neg (by simp [hv]),aw,if_pos rfl]
def lkN (D:SD) (S:Int) (nd:aD):aD:={ nd with mode:=1,holders:=[S],aB:=D.e,gen:=D.g+1 }
def lkD (D:SD) (S:Int) (k:Nat) (nd:aD):SD:={ D with g:=D.g+1,ns:=D.ns.set k (lkN D S nd) }
theorem ad0 {S E G:Int} (h:(aM D 8 S 1 E G P V).2.k=0):∃ (k:Nat) (nd:aD),D.ns[k]?=some nd/\nd.path=P/\S∈iD D.ss/\vp P=true/\aM D 8 S 1 E G P V=(lkD D S k nd,{ rp0 with e:=D.e,g:=D.g+1 }):=by
 unfold aM at h ⊢;by_cases h1:Af 8 S 1 P.length V.length E G=false;{rw [if_pos h1] at h;simp [sV] at h};rw [if_neg h1,aw] at h ⊢;by_cases h2:(DB 8&&decide (lT D.ss S<0))=true;{rw [if_pos h2] at h;simp [sV] at h};rw [if_neg h2,aw,aw,aw] at h ⊢;have hs:¬ lT D.ss S<0:=fun hh=>h2 (by simp [DB,hh]);unfold iA at h ⊢;by_cases h3:(!jA 8 P&&!vp P)=true;{rw [if_pos h3] at h;simp [sV] at h};have hv:vp P=true:=by
  cases hv:vp P with
  | true=>rfl
  | false=>exact absurd (by simp [jA,hv]) h3
 rw [if_neg h3,aw,aw] at h ⊢;by_cases h4:(!jA 8 P&&decide (xY D.ns P<0))=true;{rw [if_pos h4] at h;simp [sV] at h};have hn:¬ xY D.ns P<0:=fun hh=>h4 (by simp [jA,hh]);rw [if_neg h4,aw] at h ⊢;obtain ⟨k,nd,ek,hk,hp⟩:=Vj hn;rw [ek,Int.toNat_natCast] at h ⊢;have e:gI D k 8 S 1 V=iC D k S 1:=by unfold gI;rw [hk];rfl
 rw [e] at h ⊢;refine ⟨k,nd,hk,hp,KP hs,hv,?_⟩;unfold iC at h ⊢;rw [hk] at h ⊢;dsimp only at h ⊢;by_cases c1:nd.holders.contains S=true;{rw [if_pos c1] at h;simp [sV] at h};rw [if_neg c1,aw] at h ⊢;by_cases c2:nd.mode≠0;{rw [if_pos c2] at h;simp [sV] at h};rw [if_neg c2] at h ⊢;by_cases c3:4611686018427387904<=D.g;{rw [if_pos c3] at h;simp [sV] at h};rw [if_neg c3]
 rfl
section
variable {D:SD} {S:Int} {k:Nat} {nd:aD}
theorem aa8 (hk:D.ns[k]?=some nd):(lkD D S k nd).ns[k]?=some (lkN D S nd):=aP hk _
theorem ad2 (hd:VD (lkD D S k nd)) (hk:D.ns[k]?=some nd) {S' E G:Int}:kI (lkD D S k nd).ns nd.path S' E G=if S=S'/\D.e=E/\D.g+1=G then 1 else 0:=by
 unfold kI;rw [show nd.path=(lkN D S nd).path from rfl,ac8 hd.pd (aa8 hk)];simp [lkN]
theorem ae0 (hd:VD (lkD D S k nd)) (hk:D.ns[k]?=some nd) (hS:S∈iD D.ss):∃ D2,aM (lkD D S k nd) 9 S 0 0 0 nd.path []=(D2,rp0)/\iD D2.ss=iD D.ss/\∀ E G,kI D2.ns nd.path S E G=0:=by
 have h1:aM (lkD D S k nd) 9 S 0 0 0 nd.path []=gI (lkD D S k nd) k 9 S 0 []:=xR hd (nd:=lkN D S nd) (aa8 hk) hS (by simp [Af,vH,rowOf,Jf]) (by decide);have h2:gI (lkD D S k nd) k 9 S 0 []=(cT (lkD D S k nd) k S,rp0):=by unfold gI;rw [aa8 hk];simp [lkN]
 obtain ⟨yS,iR,e,hi,e1,e2,e3,e4⟩:=Jo (D:=lkD D S k nd) (aa8 hk) S;refine ⟨cT (lkD D S k nd) k S,h1.trans h2,by rw [e];exact hi,fun E G=>?_⟩;have hd2:=hd.drop k S;have yC:(cT (lkD D S k nd) k S).ns[k]?=some iR:=by rw [e];exact aP (aa8 hk) _
 have hn:=hd2.n2 iR (aF yC);unfold kI;rw [show nd.path=iR.path from e1.symm,ac8 hd2.pd yC];simp only;refine if_neg fun hh=>?_;have hl:=kF hn.lk hh.1;obtain ⟨a,ha⟩:=List.length_eq_one_iff.1 hl;rw [ha] at hh e3;simp only [List.headD_cons] at hh;exact e3 (by rw [hh.2.1];simp)
end
end Go.Proofs.YtcfcafeciggjeaaGreatDoor
