"""Free of charge: small sets for variables, what is related of them, and the kinds built from them."""
