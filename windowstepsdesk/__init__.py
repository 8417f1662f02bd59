"""The whole-number unit of SPARC V8, run by steps over 65536 bytes."""
