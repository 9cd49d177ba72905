import Derived.Test.YtpkakgkipopiaaaGreatDoorFF1
import Derived.LaidHandle
import Derived.LaidLaws
import Derived.Stop.LaidErr
open Bool renaming true->dY
open Go renaming Calls->dQ,Value->dV,World->G
open Go.Obj renaming cells->dO
open Go.Proofs.Tryz renaming prog->dG
open Go.Value renaming bool->jO,agg->jP,pointer->dP
open Go.World renaming heap->Q,cell?->I
open List renaming range->jR
open Option renaming none->dN,some->Y
namespace Go.Proofs.YtpkakgkipopiaaaGreatDoor
set_option maxHeartbeats 400000
set_option linter.all false
set_option maxRecDepth 100000
open Go.ChangeShapes Go.WideShapes Go.ChangeAt Go.RowKit Go.Deep
namespace srRow
def Dn:List (String×DataW Unit):=[("unicode/utf8.acceptRanges",Rows.laid_unicode_utf8_acceptRanges),("loop.example/s02132/impl.forms",Rows.laid_loop_example_s02132_impl_forms),("unicode/utf8.first",Rows.laid_unicode_utf8_first)]
theorem et:Tryz.prog.globalNamed "errors.errorType" = some 1:=by kernel_rfl
theorem rt:(Tryz.prog.cutTypes.find? (·.1== "internal/reflectlite.rtype")).map (·.2) = some 279:=by kernel_rfl
theorem dv0:((jR 376).filter λt=>Tryz.prog.rowNamed t [101,114,114,111,114])=[168]:=by kernel_rfl
theorem size:Tryz.prog.types.size=376:=by kernel_rfl
theorem parts{W : World}(h : laidMetH Tryz.prog Rows.fnFullRow.laid W):laidMet Tryz.prog Dn W∧handlesMet Tryz.prog [("errors.errorType",Rows.laid_errors_errorType)] W:=h
theorem er{W:G}(h:laidMetH dG Rows.fnFullRow.laid W):I W (Ad 1 0)=Y (.iface 279 (jP #[dP (Ad 5 168)])):=by
 let⟨name,u,j,s,r,q,o,i⟩:=(parts h).2 _ (td.2 rfl);obtain rfl:name=[101,114,114,111,114]:=(BN s).C;obtain rfl:=BN (rt.C.Z r);have hm:j∈(jR 376).filter λt=>Tryz.prog.rowNamed t [101,114,114,111,114]:=Kj.2 ⟨xl.2 (size▸q),o⟩;rw[dv0]at hm;obtain rfl:=td.1 hm;have m:typeHandle dG 168=dP (Ad 5 168):=aU;rw[m]at i;simpa using World.var?_cell et i 0
theorem ed6{W:World}(h:laidMet Tryz.prog Dn W){k:Nat}(hk:k<14){r s o x:Bool}{u B vs:Int}(D:∀R:List (DataW Unit),Rows.laid_loop_example_s02132_impl_forms=.agg R->R[k]?=some (.agg [.lit (.bool r),.lit (.bool s),.lit (.I u),.lit (.I B),.lit (.I vs),.lit (.bool o),.lit (.bool x)])):Jw W 0 (k*7) r s u B vs o x:=by
 have h2 : laidMet Tryz.prog (("loop.example/s02132/impl.forms",Rows.laid_loop_example_s02132_impl_forms)::[("unicode/utf8.first",Rows.laid_unicode_utf8_first)]) W:=laidMet.tail h;obtain⟨ps,⟨g,t,cs,fuel,p,q,M,Z,X,hd,_,_⟩,_,_⟩:=h2;obtain rfl:=BN ((show Tryz.prog.globalNamed "loop.example/s02132/impl.forms" = some 0 by kernel_rfl).C.Z M);obtain rfl:=BN ((show(Tryz.prog.globals[0]?).map (·.type)=some 111 by kernel_rfl).C.Z Z);let⟨S,m,_,ex,yO,hl,V⟩:=DataW.trod_array Tryz.underlying111 hd;have N:=V k hk;rw[cE7,bN ae]at N;have E:=D _ (Prod.mk.inj ex).1;rw[qI,bN (by omega:k<S.length)]at E;simp only[Iv,nJ]at E;have U8:=ed9 N E;have i:∀j v,[Value.bool r,.bool s,.I u,.I B,.I vs,.bool o,.bool x][j]?=some v->j<7->W.cell? (Ad 0 (k*7+j))=some v:=λj v hj y=>by rw[World.var?_cell M X (k*7+j),<-hj,<-U8,PR,aK y,Kd];simp
 exact⟨by simpa using i 0 _ rfl ae,i 1 _ rfl ae,i 2 _ rfl ae,i 3 _ rfl ae,i 4 _ rfl ae,i 5 _ rfl ae,i 6 _ rfl ae⟩
theorem tab{W:G}(h:laidMet dG Dn W):qP W:=by
 intro k m j;obtain rfl|rfl|rfl|rfl|rfl|rfl|rfl|rfl|rfl|rfl|rfl|rfl|rfl:=kinds m j<;>exact ed6 h ae (λo i=>by have e:=DataW.agg.inj i;rw[<-e];rfl)
def bn2(w:G):G:=
 { w with heap:=w.heap.modify 1 λ
   |dO _ t frozen=>.cells #[.iface 279 (jP #[dP (Y ⟨5,168,dN⟩)])] t frozen
   |o=>o}
theorem dC9(os:Os)(args:iA):laidMetH dG Rows.fnFullRow.laid (((bn2 (World.holding dG os ⟨#[],#[],[]⟩)).layVars dG Dn).forCall (λ_ _=>0) ⟨#[],args,[]⟩).memory:=by
 refine laidMetH_of_parts ?_ aU;have j:(Dn.filter λx=>(Dn.map (·.1)).contains x.1)=Dn:=List.filter_eq_self.2 λx i=>aR7.2 (fg.2 ⟨x,i,rfl⟩);have m:(Dn.filter λx=>!(Dn.map (·.1)).contains x.1)=[]:=bZ8.2 λx i=>by rw[aR7.2 (fg.2 ⟨x,i,rfl⟩)];simp
 have h:laidMet dG Dn _:=laidMet_layVars (w0:=bn2 (World.holding dG os ⟨#[],#[],[]⟩)) (Dn.map (·.1)) [] (by rw[j]) (by rw[j];kernel_rfl) (by rw[j];kernel_rfl) (m▸LaidIn.none);exact(show laidMet dG Dn _ from h.of_heap (by simp[World.memory,World.forCall,Input.heap]))
theorem cX8(p:OA)(c n:Nat)(w:G)(i:n<=maxLen)(hl:2^20<n):dQ dG 3 #[.S p n c] w (Rb (jO dY) w):=by
 unfold maxLen at i;have j:=rr 1048576 n;go_enter Tryz.func3,Tryz.ntmps3;go_wp2;go_ret;exact⟨rfl,aR _ _⟩
theorem lifted(os:Os)(i:os.Started)(H:Type)(enc:TypeId×Value->H):ReturnsInHanded {} Tryz.checked os 3 .any (λw args=>(Rows.fnFullSpec.pre enc Tryz.prog Tryz.f3 Rows.fnFullRow.domain false w args/\laidMetH Tryz.prog Rows.fnFullRow.laid w)/\sizedMet enc Tryz.prog Tryz.f3 (OpenSpec.ofChange Rows.fnFullSpec) false w args)
   (Rows.fnFullSpec.post enc Tryz.prog Tryz.f3 false true false false):=by
 refine dW4 (C:=Tryz.checked) (X:=λw _=>laidMetH Tryz.prog Rows.fnFullRow.laid w) (λ_ _ _ hh h=>h.of_heap hh) own i aU Tryz.func3
  (ChangeSpec.witness_shaped (enc:=enc) (C:=Tryz.checked) (os:=os) (X:=λw _=>laidMetH Tryz.prog Rows.fnFullRow.laid w) false ((bn2 (World.holding Tryz.prog os ⟨#[],#[],[]⟩)).layVars Tryz.prog Dn) #[aq] 8 (World.layVars_os _ _ _)
   (World.shaped_of_ZipB aU aU) aU aU aU
   (dC9 os _)) ?_
 intro W base args ds gs B u hW hL UJ;have Er:∀(j:Nat)t v,Tryz.f3.params[j]?=some t->args[j]?=some v->Value.okWide Tryz.prog W .any base t v:=u;have M:=hW;obtain⟨p,q,o,Vc,rfl,QG,aG⟩:=hW;have hA:DataW.TrodAll enc Tryz.prog W 0 (λ_=>true) true Tryz.f3.params.toList args.toList ds p:=o;have hV : DataW.TrodVars enc Tryz.prog W (λ_=>true) ["loop.example/s02132/impl.forms"] gs q:=Vc;rw[Tryz.params3]at hA Er;obtain⟨V,vs0,d0,ds0,p0,q0,fl9,rfl,rfl,h0,r0⟩:=trodAll_cons hA;obtain⟨rfl,rfl,rfl⟩:=trodAll_nil r0;obtain rfl:args=#[V]:=by cases args;simp_all
 obtain⟨gg,tt,cs,fuel,dg,pg,rfl,hg,ht,fh3,hd,hq⟩:=trodVars_one hV;have Z:=h0;have E:∀x∈p0,x.block<W.heap.size:=by obtain⟨m,hm⟩:=Z;exact DataW.trod_lt m _ _ _ hm
 obtain⟨R,ln0,N,rfl⟩:=okWide_slice Tryz.underlying22 (Er 0 22 V rfl rfl);obtain⟨fu0,YK⟩:=h0;let⟨pb0,y,cb0,s,e0,m0,yQ,EO⟩:=Rd.dv2 YK;simp[Value.cells]at s;obtain⟨rfl,rfl,rfl⟩:=s;clear o u;have walk:Calls Tryz.prog 3 #[.S R y.length N] W λe w'=>e=.returned (.bool true)/\Bw W w':=by by_cases hl:y.length<=1048576;{exact dC5 R N _ y (af rfl) W e0 (af EO) hl (dy8 UJ) (tab (parts hL).1) (er hL)};{exact cX8 R N y.length W m0 ae}
 refine walk.h λr W'⟨he,D⟩=>?_;subst he;exact⟨_,rfl,_,_,_,[],_,_,M,trodAll_mk1 (shut_bool Tryz.underlying4 _),(trodAll_cons_mk (Below.trod laidOut aU (XC aU) Z D E) trodAll_mk0),(Below.trodVars laidOut D aU hV),D.frame _,λh=>by cases h⟩
end srRow
end Go.Proofs.YtpkakgkipopiaaaGreatDoor
