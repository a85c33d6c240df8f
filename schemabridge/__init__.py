"""Schemabridge: versioned schemas, canonical octets and bridges between versions."""
