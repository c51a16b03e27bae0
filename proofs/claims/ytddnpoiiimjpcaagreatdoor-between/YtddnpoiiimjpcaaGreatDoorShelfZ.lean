/- The library contracts that the walks call, laid over this dump. -/
import Derived.Test.YtddnpoiiimjpcaaGreatDoorA0
import Derived.Shelf.Small.Bits
import Derived.Shelf.Utf8.RuneCount
import Derived.Shelf.Strconv.Itoa0
import Derived.Shelf.Strconv.Itoa1
import Derived.Shelf.LaysM
import Derived.Shelf.Strconv.ParseIntEmpty
import Derived.Shelf.Strconv.Clone
import Derived.Shelf.Strconv.SyntaxError
import Derived.Shelf.LaysC
import Derived.Shelf.Strconv.ToError
import Derived.Shelf.Strconv.Lower
import Derived.Shelf.Strconv.ParseUint10
import Derived.Shelf.Strconv.ParseUint10Empty
import Derived.Shelf.Strconv.ParseUint10Any
import Derived.Shelf.Strconv.ParseInt10
import Derived.Shelf.Strconv.RangeError
import Derived.Shelf.Strconv.ToErrorRange
import Derived.Shelf.Strconv.ParseUintEmpty
import Derived.Shelf.Strconv.ParseUint10b64
import Derived.Shelf.Strconv.ParseUint10b32
import Derived.Shelf.Strconv.ParseUint10b16
import Derived.Shelf.Strconv.ParseUint10b8
import Derived.Shelf.Strconv.ParseUint10At
import Derived.Shelf.Strconv.ParseInt10At64
import Derived.Shelf.Strconv.ParseInt10At32
import Derived.Shelf.Strconv.ParseInt10At16
import Derived.Shelf.Strconv.ParseInt10At8
import Derived.Shelf.Strconv.ParseInt10All
import Derived.Shelf.Strconv.ParseIntPublic10
import Derived.Shelf.Strconv.ErrVarParseInt
import Derived.Shelf.Unicode.Decode
import Derived.Shelf.Strings.RuneCount
import Derived.Shelf.Unicode.DecodeSlow
import Derived.Shelf.Unicode.DecodeAny
import Derived.Test.YtddnpoiiimjpcaaGreatDoorProg
import Derived.Shelf.Strings.Builder1
import Derived.Shelf.Strings.Builder2
import Derived.Shelf.Strings.OnBuilder
import Derived.Shelf.Small.Strs
import Derived.Shelf.Small.Wraps
import Derived.Shelf.Strconv.Itoa2
import Derived.Shelf.Strconv.Itoa3
import Derived.Shelf.Strconv.Itoa4
import Derived.Shelf.Strings.Prefix
import Derived.Ground.Names2Prog
import Derived.Shelf.Slices.Clone
import Derived.Shelf.Slices.SearchI
import Derived.Ground.SlgnProg
import Derived.Shelf.SlicesE.Clone
import Derived.Shelf.SlSortCmp.NoneTotal
import Derived.Shelf.SlLaysF0
import Derived.Shelf.SlGeneric
set_option linter.defProp false
set_option maxRecDepth 100000
namespace Go.Proofs
open _root_.Go.Proofs.Tryz
open Go.Shelf
def laysC174_ren:Go.Shelf.Ren:=⟨fun|174=>207|247=>219|245=>220|287=>226|279=>227|280=>228|281=>229|282=>230|321=>232|322=>233|316=>74|171=>14|205=>234|243=>34|246=>62|283=>96|284=>97|285=>98|286=>99|129=>134|317=>133|318=>135|319=>136|320=>137|337=>175|338=>176|n=>n,fun|9=>9|3=>3|2=>2|75=>302|85=>327|4=>4|167=>349|5=>5|53=>162|175=>350|46=>203|168=>352|37=>165|0=>0|210=>357|21=>21|127=>187|145=>361|143=>359|171=>161|173=>166|212=>243|51=>244|20=>20|213=>245|232=>321|233=>322|80=>305|n=>n,fun|15=>7|16=>8|17=>0|18=>2|19=>3|n=>n⟩
def laysC174:Go.Proofs.LaysC.n174 prog laysC174_ren:={
 mixed:=by kernel_rfl
 f129:=func134.trans (congrArg some (by kernel_rfl))
 f171:=func14.trans (congrArg some (by kernel_rfl))
 f174:=func207.trans (congrArg some (by kernel_rfl))
 f205:=func234.trans (congrArg some (by kernel_rfl))
 f243:=func34.trans (congrArg some (by kernel_rfl))
 f245:=func220.trans (congrArg some (by kernel_rfl))
 f246:=func62.trans (congrArg some (by kernel_rfl))
 f247:=func219.trans (congrArg some (by kernel_rfl))
 f279:=func227.trans (congrArg some (by kernel_rfl))
 f280:=func228.trans (congrArg some (by kernel_rfl))
 f281:=func229.trans (congrArg some (by kernel_rfl))
 f282:=func230.trans (congrArg some (by kernel_rfl))
 f283:=func96.trans (congrArg some (by kernel_rfl))
 f284:=func97.trans (congrArg some (by kernel_rfl))
 f285:=func98.trans (congrArg some (by kernel_rfl))
 f286:=func99.trans (congrArg some (by kernel_rfl))
 f287:=func226.trans (congrArg some (by kernel_rfl))
 f316:=func74.trans (congrArg some (by kernel_rfl))
 f317:=func133.trans (congrArg some (by kernel_rfl))
 f318:=func135.trans (congrArg some (by kernel_rfl))
 f319:=func136.trans (congrArg some (by kernel_rfl))
 f320:=func137.trans (congrArg some (by kernel_rfl))
 f321:=func232.trans (congrArg some (by kernel_rfl))
 f322:=func233.trans (congrArg some (by kernel_rfl))
 f337:=func175.trans (congrArg some (by kernel_rfl))
 f338:=func176.trans (congrArg some (by kernel_rfl))
 t0:=underlying0
 a0:=isAgg0
 z0:=sizeOf0
 v0:=zeroValue0
 t2:=underlying2
 a2:=isAgg2
 z2:=sizeOf2
 v2:=zeroValue2
 t3:=underlying3
 a3:=isAgg3
 z3:=sizeOf3
 v3:=zeroValue3
 t4:=underlying4
 a4:=isAgg4
 z4:=sizeOf4
 v4:=zeroValue4
 t5:=underlying5
 a5:=isAgg5
 z5:=sizeOf5
 v5:=zeroValue5
 t9:=underlying9
 a9:=isAgg9
 z9:=sizeOf9
 v9:=zeroValue9
 t20:=underlying20
 a20:=isAgg20
 z20:=sizeOf20
 v20:=zeroValue20
 t21:=underlying21
 a21:=isAgg21
 z21:=sizeOf21
 v21:=zeroValue21
 t37:=underlying165
 a37:=isAgg165
 z37:=sizeOf165
 v37:=zeroValue165
 t46:=underlying203
 a46:=isAgg203
 z46:=sizeOf203
 v46:=zeroValue203
 t51:=underlying244
 a51:=isAgg244
 z51:=sizeOf244
 v51:=zeroValue244
 t53:=underlying162
 a53:=isAgg162
 z53:=sizeOf162
 v53:=zeroValue162
 t75:=underlying302
 a75:=isAgg302
 z75:=sizeOf302
 v75:=zeroValue302
 t85:=underlying327
 a85:=isAgg327
 z85:=sizeOf327
 v85:=zeroValue327
 t127:=underlying187
 a127:=isAgg187
 z127:=sizeOf187
 v127:=zeroValue187
 t143:=underlying359
 a143:=isAgg359
 z143:=sizeOf359
 v143:=zeroValue359
 t145:=underlying361
 a145:=isAgg361
 z145:=sizeOf361
 v145:=zeroValue361
 t167:=underlying349
 a167:=isAgg349
 z167:=sizeOf349
 v167:=zeroValue349
 t168:=underlying352
 a168:=isAgg352
 z168:=sizeOf352
 v168:=zeroValue352
 t171:=underlying161
 a171:=isAgg161
 z171:=sizeOf161
 v171:=zeroValue161
 t173:=underlying166
 a173:=isAgg166
 z173:=sizeOf166
 v173:=zeroValue166
 t175:=underlying350
 a175:=isAgg350
 z175:=sizeOf350
 v175:=zeroValue350
 t210:=underlying357
 a210:=isAgg357
 z210:=sizeOf357
 v210:=zeroValue357
 t212:=underlying243
 a212:=isAgg243
 z212:=sizeOf243
 v212:=zeroValue243
 t213:=underlying245
 a213:=isAgg245
 z213:=sizeOf245
 t232:=underlying321
 a232:=isAgg321
 z232:=sizeOf321
 v232:=zeroValue321
 t233:=underlying322
 a233:=isAgg322
 z233:=sizeOf322
 v233:=zeroValue322
 g15:=by kernel_rfl
 g16:=by kernel_rfl
 g17:=by kernel_rfl
 g18:=by kernel_rfl
 g19:=by kernel_rfl
 t80:=underlying305
 a80:=isAgg305
 z80:=sizeOf305
 v80:=zeroValue305
 i0:=by kernel_rfl
 i2:=by kernel_rfl
 i3:=by kernel_rfl
 i4:=by kernel_rfl
 i5:=by kernel_rfl
 i9:=by kernel_rfl
 i20:=by kernel_rfl
 i21:=by kernel_rfl
 i37:=by kernel_rfl
 i46:=by kernel_rfl
 i51:=by kernel_rfl
 i53:=by kernel_rfl
 i75:=by kernel_rfl
 i80:=by kernel_rfl
 i85:=by kernel_rfl
 i127:=by kernel_rfl
 i143:=by kernel_rfl
 i145:=by kernel_rfl
 i167:=by kernel_rfl
 i168:=by kernel_rfl
 i171:=by kernel_rfl
 i173:=by kernel_rfl
 i175:=by kernel_rfl
 i210:=by kernel_rfl
 i212:=by kernel_rfl
 i232:=by kernel_rfl
 i233:=by kernel_rfl
 m15:=by kernel_rfl
 m16:=by kernel_rfl
 m17:=by kernel_rfl
 m18:=by kernel_rfl
 m19:=by kernel_rfl
 c0:=by kernel_rfl
 c2:=by kernel_rfl
 c3:=by kernel_rfl
 c4:=by kernel_rfl
 c5:=by kernel_rfl
 c9:=by kernel_rfl
 c20:=by kernel_rfl
 c21:=by kernel_rfl
 c37:=by kernel_rfl
 c46:=by kernel_rfl
 c51:=by kernel_rfl
 c53:=by kernel_rfl
 c75:=by kernel_rfl
 c80:=by kernel_rfl
 c85:=by kernel_rfl
 c127:=by kernel_rfl
 c143:=by kernel_rfl
 c145:=by kernel_rfl
 c167:=by kernel_rfl
 c168:=by kernel_rfl
 c171:=by kernel_rfl
 c173:=by kernel_rfl
 c175:=by kernel_rfl
 c210:=by kernel_rfl
 c212:=by kernel_rfl
 c213:=by kernel_rfl
 c232:=by kernel_rfl
 c233:=by kernel_rfl }
open Go.RowKit in
def strconv_ParseInt_10_at64_ok(s:ByteArray)(a:s.size<=9223372036854775806)(v:Int)(h:Lib.parseIntB 64 s.data.toList=.ok v)(w:World):
 Calls prog 207 #[.string s,.int .i64 10,.int .i64 64] w fun e b=>e=.returned (.tuple #[.int .i64 v,.nilIface])/\(b=w\/∃t,b=Lib.bytesWorld w 5 t):=Any.strconv_ParseInt_10_at64_ok laysC174 s a v h w
open Go.RowKit in
def strconv_ParseInt_10_at64_range(s:ByteArray)(b:s.size<=281474976710656)(h:Lib.parseIntB 64 s.data.toList=.range)(a:Value)(w:World)(g:w.cell? ⟨8,0,none⟩=some a)(c:a=.nilIface\/∃f i,a=.iface f i):
 Calls prog 207 #[.string s,.int .i64 10,.int .i64 64] w fun e d=>∃N,e=.returned (.tuple #[.int .i64 (Lib.intSat 64 s.data.toList),.iface 352 (.pointer (some ⟨N,0,none⟩))])/\w.heap.size<=N/\d.heap[N]?=some (.cells #[.string ⟨#[80,97,114,115,101,73,110,116]⟩,.string s,a] 357 (0,0))/\Below w.heap.size w d:=Any.strconv_ParseInt_10_at64_range laysC174 s b h a w g c
def lays197_ren:Go.Shelf.Ren:=⟨fun|197=>138|260=>177|n=>n,fun|9=>9|21=>21|3=>3|4=>4|5=>5|105=>246|119=>323|0=>0|46=>203|139=>326|138=>325|n=>n,fun|3=>4|4=>5|n=>n⟩
def lays197:Go.Proofs.Lays.n197 prog lays197_ren:={
 mixed:=by kernel_rfl
 f197:=func138.trans (congrArg some (by kernel_rfl))
 f260:=func177.trans (congrArg some (by kernel_rfl))
 t0:=underlying0
 a0:=isAgg0
 z0:=sizeOf0
 v0:=zeroValue0
 t3:=underlying3
 a3:=isAgg3
 z3:=sizeOf3
 v3:=zeroValue3
 t4:=underlying4
 a4:=isAgg4
 z4:=sizeOf4
 v4:=zeroValue4
 t5:=underlying5
 a5:=isAgg5
 z5:=sizeOf5
 v5:=zeroValue5
 t9:=underlying9
 a9:=isAgg9
 z9:=sizeOf9
 v9:=zeroValue9
 t21:=underlying21
 a21:=isAgg21
 z21:=sizeOf21
 v21:=zeroValue21
 t46:=underlying203
 a46:=isAgg203
 z46:=sizeOf203
 v46:=zeroValue203
 t105:=underlying246
 a105:=isAgg246
 z105:=sizeOf246
 v105:=zeroValue246
 t119:=underlying323
 a119:=isAgg323
 z119:=sizeOf323
 t138:=underlying325
 a138:=isAgg325
 z138:=sizeOf325
 v138:=zeroValue325
 t139:=underlying326
 a139:=isAgg326
 z139:=sizeOf326
 v139:=zeroValue326
 g3:=by kernel_rfl
 g4:=by kernel_rfl }
open Go.RowKit Go.Lib in
def utf8_DecodeRuneInString(s:ByteArray)(w:World)(b:Lib.Utf8Tabs 4 5 w):
 Calls prog 138 #[.string s] w fun e a=>e=.returned (.tuple #[.int .i32 (Lib.decodeGo s).1,.int .i64 (Lib.decodeGo s).2])/\Below w.heap.size w a:=Any.utf8_DecodeRuneInString lays197 s w b
end Go.Proofs
namespace Go.Proofs
open _root_.Go.Proofs.Tryz
def lays156_ren:Go.Shelf.Ren:=⟨fun|156=>153|165=>192|166=>193|169=>194|240=>215|241=>216|276=>223|277=>224|n=>n,fun|31=>32|9=>9|3=>3|4=>4|0=>0|20=>20|72=>299|76=>303|70=>297|37=>165|75=>302|127=>187|164=>346|5=>5|80=>305|n=>n,fun|n=>n⟩
def lays156:Go.Proofs.Lays.n156 prog lays156_ren:={
 mixed:=by kernel_rfl
 f156:=func153.trans (congrArg some (by kernel_rfl))
 f165:=func192.trans (congrArg some (by kernel_rfl))
 f166:=func193.trans (congrArg some (by kernel_rfl))
 f169:=func194.trans (congrArg some (by kernel_rfl))
 f240:=func215.trans (congrArg some (by kernel_rfl))
 f241:=func216.trans (congrArg some (by kernel_rfl))
 f276:=func223.trans (congrArg some (by kernel_rfl))
 f277:=func224.trans (congrArg some (by kernel_rfl))
 t0:=underlying0
 a0:=isAgg0
 z0:=sizeOf0
 v0:=zeroValue0
 t3:=underlying3
 a3:=isAgg3
 z3:=sizeOf3
 v3:=zeroValue3
 t4:=underlying4
 a4:=isAgg4
 z4:=sizeOf4
 v4:=zeroValue4
 t9:=underlying9
 a9:=isAgg9
 z9:=sizeOf9
 v9:=zeroValue9
 t20:=underlying20
 a20:=isAgg20
 z20:=sizeOf20
 v20:=zeroValue20
 t31:=underlying32
 a31:=isAgg32
 z31:=sizeOf32
 v31:=zeroValue32
 t37:=underlying165
 a37:=isAgg165
 z37:=sizeOf165
 v37:=zeroValue165
 t70:=underlying297
 a70:=isAgg297
 z70:=sizeOf297
 v70:=zeroValue297
 t72:=underlying299
 a72:=isAgg299
 z72:=sizeOf299
 v72:=zeroValue299
 t75:=underlying302
 a75:=isAgg302
 z75:=sizeOf302
 v75:=zeroValue302
 t76:=underlying303
 a76:=isAgg303
 z76:=sizeOf303
 v76:=zeroValue303
 t127:=underlying187
 a127:=isAgg187
 z127:=sizeOf187
 v127:=zeroValue187
 t164:=underlying346
 a164:=isAgg346
 z164:=sizeOf346
 v164:=zeroValue346 }
def Builder_Extra_156:Builder.Extra prog lays156_ren:={
 sizeBuilder:=by kernel_rfl
 liesBuilder:=by kernel_rfl
 t5:=underlying5
 a5:=isAgg5
 z5:=sizeOf5
 v5:=zeroValue5
 infoByte:=by kernel_rfl
 cellsByte:=by kernel_rfl
 sizeByte:=by kernel_rfl
 neB5:=by decide }
open Go.RowKit in
def strings_Join_none(a:Option Addr)(c:Nat)(b:ByteArray)(w:World):
 Calls prog 153 #[.slice a 0 c,.string b] w fun e d=>e=.returned (.string ⟨#[]⟩)/\d=w:=Any.strings_Join_none lays156 Builder_Extra_156 a c b w
open Go.RowKit in
def strings_Join(g o c:Nat)(xs:List ByteArray)(a:ByteArray)(w:World)(b:∀(j:Nat) x,xs[j]?=some x->w.cell? ⟨g,o+j,none⟩=some (.string x))(h:g<w.heap.size)(k:xs.length<=140737488355328)(d:xs.length<=c)(f:(Lib.join (xs.map (·.data.toList)) a.data.toList).length<=140737488355328):
 Calls prog 153 #[.slice (some ⟨g,o,none⟩) xs.length c,.string a] w fun e i=>e=.returned (.string ⟨(Lib.join (xs.map (·.data.toList)) a.data.toList).toArray⟩)/\Below w.heap.size w i:=Any.strings_Join lays156 Builder_Extra_156 g o c xs a w b h k d f
def lays106_ren:Go.Shelf.Ren:=⟨fun|106=>85|213=>118|265=>163|n=>n,fun|9=>9|3=>3|n=>n,fun|n=>n⟩
def lays106:Go.Proofs.Lays.n106 prog lays106_ren:={
 mixed:=by kernel_rfl
 f106:=func85.trans (congrArg some (by kernel_rfl))
 f213:=func118.trans (congrArg some (by kernel_rfl))
 f265:=func163.trans (congrArg some (by kernel_rfl))
 t3:=underlying3
 a3:=isAgg3
 z3:=sizeOf3
 v3:=zeroValue3
 t9:=underlying9
 a9:=isAgg9
 z9:=sizeOf9
 v9:=zeroValue9 }
open Go.RowKit in
def strings_Compare(a b:ByteArray)(w:World):
 Calls prog 85 #[.string a,.string b] w fun e c=>e=.returned (.int .i64 (Lib.compareBytes a.data.toList b.data.toList))/\c=w:=Any.strings_Compare lays106 a b w
def lays121_ren:Go.Shelf.Ren:=⟨fun|121=>114|214=>152|n=>n,fun|4=>4|9=>9|n=>n,fun|n=>n⟩
def lays121:Go.Proofs.Lays.n121 prog lays121_ren:={
 mixed:=by kernel_rfl
 f121:=func114.trans (congrArg some (by kernel_rfl))
 f214:=func152.trans (congrArg some (by kernel_rfl))
 t4:=underlying4
 a4:=isAgg4
 z4:=sizeOf4
 v4:=zeroValue4
 t9:=underlying9
 a9:=isAgg9
 z9:=sizeOf9
 v9:=zeroValue9 }
open Go.RowKit in
def strconv_FormatBool(b:Bool)(w:World):
 Calls prog 114 #[.bool b] w fun e a=>e=.returned (.string ⟨(Lib.formatBool b).toArray⟩)/\a=w:=Any.strconv_FormatBool lays121 b w
def lays195_ren:Go.Shelf.Ren:=⟨fun|195=>285|n=>n,fun|9=>9|3=>3|0=>0|4=>4|n=>n,fun|n=>n⟩
def lays195:Go.Proofs.Lays.n195 prog lays195_ren:={
 mixed:=by kernel_rfl
 f195:=func285.trans (congrArg some (by kernel_rfl))
 t0:=underlying0
 a0:=isAgg0
 z0:=sizeOf0
 v0:=zeroValue0
 t3:=underlying3
 a3:=isAgg3
 z3:=sizeOf3
 v3:=zeroValue3
 t4:=underlying4
 a4:=isAgg4
 z4:=sizeOf4
 v4:=zeroValue4
 t9:=underlying9
 a9:=isAgg9
 z9:=sizeOf9
 v9:=zeroValue9 }
open Go.RowKit in
def utf8_RuneCountInString(s:ByteArray)(w:World)(c:s.size<9223372036854775807):
 Calls prog 285 #[.string s] w fun e b=>e=.returned (.int .i64 (Lib.runeCount s))/\∃a,b=w.iter s a:=Any.utf8_RuneCountInString lays195 s w c
def laysM173_ren:Go.Shelf.Ren:=⟨fun|173=>113|246=>62|283=>96|284=>97|285=>98|286=>99|129=>134|317=>133|318=>135|319=>136|320=>137|337=>175|338=>176|n=>n,fun|2=>2|3=>3|9=>9|4=>4|171=>161|0=>0|53=>162|37=>165|5=>5|173=>166|212=>243|51=>244|20=>20|213=>245|46=>203|232=>321|233=>322|n=>n,fun|17=>0|18=>2|19=>3|n=>n⟩
def laysM173:Go.Proofs.LaysM.n173 prog laysM173_ren:={
 mixed:=by kernel_rfl
 f129:=func134.trans (congrArg some (by kernel_rfl))
 f173:=func113.trans (congrArg some (by kernel_rfl))
 f246:=func62.trans (congrArg some (by kernel_rfl))
 f283:=func96.trans (congrArg some (by kernel_rfl))
 f284:=func97.trans (congrArg some (by kernel_rfl))
 f285:=func98.trans (congrArg some (by kernel_rfl))
 f286:=func99.trans (congrArg some (by kernel_rfl))
 f317:=func133.trans (congrArg some (by kernel_rfl))
 f318:=func135.trans (congrArg some (by kernel_rfl))
 f319:=func136.trans (congrArg some (by kernel_rfl))
 f320:=func137.trans (congrArg some (by kernel_rfl))
 f337:=func175.trans (congrArg some (by kernel_rfl))
 f338:=func176.trans (congrArg some (by kernel_rfl))
 t0:=underlying0
 a0:=isAgg0
 z0:=sizeOf0
 v0:=zeroValue0
 t2:=underlying2
 a2:=isAgg2
 z2:=sizeOf2
 v2:=zeroValue2
 t3:=underlying3
 a3:=isAgg3
 z3:=sizeOf3
 v3:=zeroValue3
 t4:=underlying4
 a4:=isAgg4
 z4:=sizeOf4
 v4:=zeroValue4
 t5:=underlying5
 a5:=isAgg5
 z5:=sizeOf5
 v5:=zeroValue5
 t9:=underlying9
 a9:=isAgg9
 z9:=sizeOf9
 v9:=zeroValue9
 t20:=underlying20
 a20:=isAgg20
 z20:=sizeOf20
 v20:=zeroValue20
 t37:=underlying165
 a37:=isAgg165
 z37:=sizeOf165
 v37:=zeroValue165
 t46:=underlying203
 a46:=isAgg203
 z46:=sizeOf203
 v46:=zeroValue203
 t51:=underlying244
 a51:=isAgg244
 z51:=sizeOf244
 v51:=zeroValue244
 t53:=underlying162
 a53:=isAgg162
 z53:=sizeOf162
 v53:=zeroValue162
 t171:=underlying161
 a171:=isAgg161
 z171:=sizeOf161
 v171:=zeroValue161
 t173:=underlying166
 a173:=isAgg166
 z173:=sizeOf166
 v173:=zeroValue166
 t212:=underlying243
 a212:=isAgg243
 z212:=sizeOf243
 v212:=zeroValue243
 t213:=underlying245
 a213:=isAgg245
 z213:=sizeOf245
 t232:=underlying321
 a232:=isAgg321
 z232:=sizeOf321
 v232:=zeroValue321
 t233:=underlying322
 a233:=isAgg322
 z233:=sizeOf322
 v233:=zeroValue322
 g17:=by kernel_rfl
 g18:=by kernel_rfl
 g19:=by kernel_rfl
 i0:=by kernel_rfl
 i2:=by kernel_rfl
 i3:=by kernel_rfl
 i4:=by kernel_rfl
 i5:=by kernel_rfl
 i9:=by kernel_rfl
 i20:=by kernel_rfl
 i37:=by kernel_rfl
 i46:=by kernel_rfl
 i51:=by kernel_rfl
 i53:=by kernel_rfl
 i171:=by kernel_rfl
 i173:=by kernel_rfl
 i212:=by kernel_rfl
 i232:=by kernel_rfl
 i233:=by kernel_rfl
 m17:=by kernel_rfl
 m18:=by kernel_rfl
 m19:=by kernel_rfl }
open Go.RowKit Go.Sort Go.Lib in
def strconv_FormatInt_10(n:Int)(f: -9223372036854775808<=n)(d:n<=9223372036854775807)(w:World)(a:Lib.TabIs prog w "internal/strconv.uint64pow10" .u64 Lib.pow10Tab):
 Calls prog 113 #[.int .i64 n,.int .i64 10] w fun e b=>e=.returned (.string ⟨(Lib.itoa n).toArray⟩)/\∃k c,b=grow (w.drewN k) c:=Any.strconv_FormatInt_10 laysM173 n f d w a
end Go.Proofs
namespace Go.Proofs
open _root_.Go.Proofs.Tryz
def laysM316_ren:Go.Shelf.Ren:=⟨fun|316=>74|n=>n,fun|9=>9|3=>3|4=>4|37=>165|0=>0|127=>187|5=>5|n=>n,fun|n=>n⟩
def laysM316:Go.Proofs.LaysM.n316 prog laysM316_ren:={
 mixed:=by kernel_rfl
 f316:=func74.trans (congrArg some (by kernel_rfl))
 t0:=underlying0
 a0:=isAgg0
 z0:=sizeOf0
 v0:=zeroValue0
 t3:=underlying3
 a3:=isAgg3
 z3:=sizeOf3
 v3:=zeroValue3
 t4:=underlying4
 a4:=isAgg4
 z4:=sizeOf4
 v4:=zeroValue4
 t9:=underlying9
 a9:=isAgg9
 z9:=sizeOf9
 v9:=zeroValue9
 t37:=underlying165
 a37:=isAgg165
 z37:=sizeOf165
 v37:=zeroValue165
 t127:=underlying187
 a127:=isAgg187
 z127:=sizeOf187
 v127:=zeroValue187
 t5:=underlying5
 a5:=isAgg5
 z5:=sizeOf5
 v5:=zeroValue5
 i0:=by kernel_rfl
 i3:=by kernel_rfl
 i4:=by kernel_rfl
 i5:=by kernel_rfl
 i9:=by kernel_rfl
 i37:=by kernel_rfl
 i127:=by kernel_rfl }
open Go.RowKit in
def stringslite_Clone(s:ByteArray)(w:World)(a:s.size<=281474976710656):
 Calls prog 74 #[.string s] w fun e b=>e=.returned (.string s)/\Below w.heap.size w b:=Any.stringslite_Clone laysM316 s w a
end Go.Proofs
namespace Go.Proofs
open _root_.Go.Proofs.Tryz
def sortL_ren:Go.Shelf.Ren:=⟨fun|6=>83|15=>117|14=>116|28=>162|29=>134|20=>154|21=>155|22=>156|23=>157|24=>158|25=>159|26=>160|27=>161|46=>195|47=>196|48=>197|49=>198|50=>199|57=>217|n=>n,fun|22=>31|24=>72|25=>147|3=>3|39=>203|0=>0|53=>244|55=>162|4=>4|46=>267|45=>266|50=>109|5=>5|9=>9|66=>306|70=>310|76=>338|77=>339|n=>n,fun|n=>n⟩
def sortL:Go.Proofs.SlLaysF0.n6 prog sortL_ren:={
 mixed:=by kernel_rfl
 f6:=⟨f83.name,by decide,func83.trans (congrArg some (by kernel_rfl))⟩
 f14:=⟨f116.name,by decide,func116.trans (congrArg some (by kernel_rfl))⟩
 f15:=func117.trans (congrArg some (by kernel_rfl))
 f20:=⟨f154.name,by decide,func154.trans (congrArg some (by kernel_rfl))⟩
 f21:=⟨f155.name,by decide,func155.trans (congrArg some (by kernel_rfl))⟩
 f22:=⟨Tryz.f156.name,by decide,func156.trans (congrArg some (by kernel_rfl))⟩
 f23:=⟨f157.name,by decide,func157.trans (congrArg some (by kernel_rfl))⟩
 f24:=⟨f158.name,by decide,func158.trans (congrArg some (by kernel_rfl))⟩
 f25:=⟨f159.name,by decide,func159.trans (congrArg some (by kernel_rfl))⟩
 f26:=⟨f160.name,by decide,func160.trans (congrArg some (by kernel_rfl))⟩
 f27:=⟨f161.name,by decide,func161.trans (congrArg some (by kernel_rfl))⟩
 f28:=func162.trans (congrArg some (by kernel_rfl))
 f29:=func134.trans (congrArg some (by kernel_rfl))
 f46:=⟨Tryz.f195.name,by decide,func195.trans (congrArg some (by kernel_rfl))⟩
 f47:=func196.trans (congrArg some (by kernel_rfl))
 f48:=func197.trans (congrArg some (by kernel_rfl))
 f49:=⟨f198.name,by decide,func198.trans (congrArg some (by kernel_rfl))⟩
 f50:=⟨f199.name,by decide,func199.trans (congrArg some (by kernel_rfl))⟩
 f57:=⟨f217.name,by decide,func217.trans (congrArg some (by kernel_rfl))⟩
 t0:=underlying0
 a0:=isAgg0
 z0:=sizeOf0
 v0:=zeroValue0
 t3:=underlying3
 a3:=isAgg3
 z3:=sizeOf3
 v3:=zeroValue3
 t4:=underlying4
 a4:=isAgg4
 z4:=sizeOf4
 v4:=zeroValue4
 t5:=underlying5
 a5:=isAgg5
 z5:=sizeOf5
 v5:=zeroValue5
 t9:=underlying9
 a9:=isAgg9
 z9:=sizeOf9
 v9:=zeroValue9
 t22:=underlying31
 a22:=isAgg31
 z22:=sizeOf31
 v22:=zeroValue31
 t25:=underlying147
 a25:=isAgg147
 z25:=sizeOf147
 v25:=zeroValue147
 t39:=underlying203
 a39:=isAgg203
 z39:=sizeOf203
 v39:=zeroValue203
 t45:=underlying266
 a45:=isAgg266
 z45:=sizeOf266
 v45:=zeroValue266
 t46:=underlying267
 a46:=isAgg267
 z46:=sizeOf267
 v46:=zeroValue267
 t50:=underlying109
 a50:=isAgg109
 z50:=sizeOf109
 v50:=zeroValue109
 t53:=underlying244
 a53:=isAgg244
 z53:=sizeOf244
 v53:=zeroValue244
 t55:=underlying162
 a55:=isAgg162
 z55:=sizeOf162
 v55:=zeroValue162
 t66:=underlying306
 a66:=isAgg306
 z66:=sizeOf306
 v66:=zeroValue306
 t70:=underlying310
 a70:=isAgg310
 z70:=sizeOf310
 v70:=zeroValue310
 t76:=underlying338
 a76:=isAgg338
 z76:=sizeOf338
 v76:=zeroValue338
 t77:=underlying339
 a77:=isAgg339
 z77:=sizeOf339
 v77:=zeroValue339 }
end Go.Proofs
