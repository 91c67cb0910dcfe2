"""Tables about some of five questions that agree, or don't, on what they share."""
